package tests

import (
	"fmt"
	"math"
	"reflect"
	"slices"
	"strings"
	"testing"

	"loop.example/wharffleet/impl"
)

// mateChange breaks one condition of a valid mate alone, the one of that name in the second reading, or none if it is "".
type mateChange struct {
	what, breaks string
	change       func(m *impl.Mate)
}

// mateChanges are of a mate that is full; what breaks no condition brings one to its limit.
func mateChanges() []mateChange {
	var all []mateChange
	add := func(what, breaks string, change func(m *impl.Mate)) {
		all = append(all, mateChange{what, breaks, change})
	}
	when := func(ok bool, breaks string) string {
		if ok {
			return ""
		}
		return breaks
	}
	for _, name := range []string{"b", "*", "!", "~", strings.Repeat("~", 20), "", strings.Repeat("~", 21), " ", "a b", "a\n", "\x7f", "é", "\xff"} {
		add(fmt.Sprintf("the name %q", name), when(modelMateName.MatchString(name), "name"), func(m *impl.Mate) { m.Name = name })
	}
	for _, n := range []int{math.MinInt, -1, 0, 1, 999999, 1000000, 1000001, math.MaxInt} {
		add(fmt.Sprintf("seen %d", n), when(n >= 0 && n <= 1000000, "seen"), func(m *impl.Mate) { m.Seen = n })
	}
	for _, n := range []int{50, 49, 51} { // the asks' last, and the lease of what lives
		breaks := map[int]string{50: "", 49: "asks", 51: "runs"}[n]
		add(fmt.Sprintf("clock %d", n), breaks, func(m *impl.Mate) { m.Clock = n })
	}
	add("not known", "wants unheard", func(m *impl.Mate) { m.Known = false })
	add("not known, without wants", "", func(m *impl.Mate) { m.Known, m.Wants = false, nil })
	add("known, without wants", "", func(m *impl.Mate) { m.Wants = []impl.MateWant{} })
	add("wants that descend", "wants", func(m *impl.Mate) { slices.Reverse(m.Wants) })
	add("a want of nothing", "wants", func(m *impl.Mate) { m.Wants[0] = impl.MateWant{} })
	add("two wants with one hold", "wants", func(m *impl.Mate) { m.Wants[0].Hold = m.Wants[1].Hold })
	add("runs that descend", "runs", func(m *impl.Mate) { slices.Reverse(m.Runs) })
	add("a run in no state", "runs", func(m *impl.Mate) { m.Runs[5].State = 7 })
	add("a run without a lease", "runs", func(m *impl.Mate) { m.Runs[2].Until-- })
	add("a run without a hold, with a lease", "runs", func(m *impl.Mate) { m.Runs[3].Until = 60 })
	add("runs of nothing wanted", "", func(m *impl.Mate) { m.Runs[0].Want.Version = 9 })
	add("no runs", "", func(m *impl.Mate) { m.Runs = nil })
	for _, n := range []int{9, 10, 11, 500} {
		add(fmt.Sprint(n, " wants"), when(n <= 10, "wants"), func(m *impl.Mate) {
			m.Wants = numbered(n, func(name string) impl.MateWant { return wantOf(name, name) })
		})
	}
	for _, n := range []int{19, 20, 21, 500} {
		add(fmt.Sprint(n, " runs"), when(n <= 20, "runs"), func(m *impl.Mate) {
			m.Runs = numbered(n, func(name string) impl.MateRun {
				return impl.MateRun{Want: wantOf(name, "v"), State: impl.MateReady, Until: 54}
			})
		})
	}
	all = append(all, askChanges("asks", func(m *impl.Mate) *[]impl.MateAsk { return &m.Asks })...)
	all = append(all, askChanges("gives", func(m *impl.Mate) *[]impl.MateAsk { return &m.Gives })...)
	add("a hold in both", "both", func(m *impl.Mate) { m.Gives[1] = m.Asks[2] })
	add("the first hold in both", "both", func(m *impl.Mate) { m.Gives[0].Hold = m.Asks[0].Hold })
	add("a hold in both, of other copies and times", "both", func(m *impl.Mate) {
		m.Gives = []impl.MateAsk{{Hold: m.Asks[1].Hold, Copy: "other", First: 1, At: 2}}
	})
	add("a copy in both", "", func(m *impl.Mate) { m.Gives[0].Copy = m.Asks[0].Copy })
	add("neither asks nor gives", "", func(m *impl.Mate) { m.Asks, m.Gives = []impl.MateAsk{}, nil })
	return all
}

// askChanges are of one of the two lists, of which the second one is changed.
func askChanges(breaks string, of func(m *impl.Mate) *[]impl.MateAsk) []mateChange {
	var all []mateChange
	add := func(what string, ok bool, change func(a *impl.MateAsk)) {
		c := mateChange{breaks + ": " + what, breaks, func(m *impl.Mate) { change(&(*of(m))[1]) }}
		if ok {
			c.breaks = ""
		}
		all = append(all, c)
	}
	for _, n := range []int{1, 20, 21, 0} {
		add(fmt.Sprintf("a hold of %d bytes", n), n == 1 || n == 20, func(a *impl.MateAsk) { a.Hold = (a.Hold + strings.Repeat("~", 30))[:n] })
		add(fmt.Sprintf("a copy of %d bytes", n), n == 1 || n == 20, func(a *impl.MateAsk) { a.Copy = strings.Repeat("~", n) })
	}
	add("the copy *", true, func(a *impl.MateAsk) { a.Copy = "*" })
	for _, text := range []string{" ", "g h", "g\n", "\x7f", "é"} {
		add(fmt.Sprintf("the hold %q", text), false, func(a *impl.MateAsk) { a.Hold = text })
		add(fmt.Sprintf("the copy %q", text), false, func(a *impl.MateAsk) { a.Copy = text })
	}
	for _, c := range []struct {
		first, at int
		ok        bool
	}{
		{0, 0, true}, {0, 50, true}, {50, 50, true}, {49, 50, true}, {0, 51, false}, {51, 51, false}, {51, 50, false}, {1, 0, false}, {30, 29, false},
		{-1, 0, false}, {-1, 50, false}, {-1, -1, false}, {0, -1, false}, {math.MinInt, 0, false}, {math.MinInt, math.MinInt, false}, {0, math.MinInt, false}, {0, math.MaxInt, false}, {math.MaxInt, math.MaxInt, false}, {math.MaxInt, 50, false},
	} {
		add(fmt.Sprintf("first %d, at %d", c.first, c.at), c.ok, func(a *impl.MateAsk) { a.First, a.At = c.first, c.at })
	}
	list := func(what string, ok bool, make func() []impl.MateAsk) {
		c := mateChange{breaks + ": " + what, breaks, func(m *impl.Mate) { *of(m) = make() }}
		if ok {
			c.breaks = ""
		}
		all = append(all, c)
	}
	called := func(holds ...string) func() []impl.MateAsk {
		return func() []impl.MateAsk {
			var list []impl.MateAsk
			for _, h := range holds {
				list = append(list, impl.MateAsk{Hold: h, Copy: "c"})
			}
			return list
		}
	}
	list("the hold *", false, called("*"))
	list("the hold **", true, called("**"))
	list("ascending", true, called("!", "A", "a", "aa", "~"))
	list("descending", false, called("b", "a"))
	list("twice", false, called("a", "a"))
	list("the last does not ascend", false, called("a", "b", "d", "c"))
	list("the last is the first", false, called("a", "b", "d", "a"))
	list("a beginning behind", false, called("aa", "a"))
	for _, n := range []int{39, 40, 41, 80, 500} {
		list(fmt.Sprint(n, " of them"), n <= 40, func() []impl.MateAsk { return asksCalled(n, "x") })
	}
	list("40, the last of which is none", false, func() []impl.MateAsk {
		most := asksCalled(40, "x")
		most[39].At = 51
		return most
	})
	return all
}

// downChanges are of a mate that is down.
func downChanges() []mateChange {
	return []mateChange{
		{"with runs", "", func(m *impl.Mate) {}},
		{"with empty lists", "", func(m *impl.Mate) {
			m.Wants, m.Asks, m.Gives = []impl.MateWant{}, []impl.MateAsk{}, []impl.MateAsk{}
		}},
		{"with nothing", "", func(m *impl.Mate) { m.Runs = nil }},
		{"known", "down known", func(m *impl.Mate) { m.Known = true }},
		{"seen", "down seen", func(m *impl.Mate) { m.Seen = 1 }},
		{"with an ask", "down asks", func(m *impl.Mate) { m.Asks = []impl.MateAsk{{Hold: "v", Copy: "c"}} }},
		{"with a give", "down gives", func(m *impl.Mate) { m.Gives = []impl.MateAsk{{Hold: "v", Copy: "c"}} }},
		{"pulling without a hold", "down runs", func(m *impl.Mate) { m.Runs = severalRuns() }},
		{"waiting without a hold", "down runs", func(m *impl.Mate) { m.Runs[0].Want.Hold, m.Runs[0].Until = "", 0 }},
		{"backing off without a hold", "down runs", func(m *impl.Mate) { m.Runs[3].Want.Hold = "" }},
		{"pulling with a hold", "", func(m *impl.Mate) { m.Runs[0].State, m.Runs[0].Left = impl.MatePulling, 3 }},
		{"alive without a hold", "", func(m *impl.Mate) { m.Runs = m.Runs[2:3] }},
		{"a run without a lease", "runs", func(m *impl.Mate) { m.Runs[1].Until-- }},
		{"without a name", "name", func(m *impl.Mate) { m.Name = "" }},
	}
}

// checkNothing holds that each function answers nothing of a mate that is not valid.
func checkNothing(t *testing.T, what string, m impl.Mate) {
	t.Helper()
	none := func(m impl.Mate) bool { return reflect.DeepEqual(plainMate(m), impl.Mate{}) }
	for _, rate := range []int{0, 1, 2, 3, 4, 5, math.MinInt, math.MaxInt} {
		if next, sent := impl.MateTick(m, rate); !none(next) || len(sent) != 0 {
			t.Errorf("%s: MateTick by %d is %+v, %+v", what, rate, next, sent)
		}
	}
	for _, p := range append(everyKind(fullMate()), toldTo(9), impl.MateParcel{}) {
		if p.Berth = m.Name; !none(impl.MateTake(m, p)) {
			t.Errorf("%s: MateTake of %+v is %+v", what, p, impl.MateTake(m, p))
		}
	}
	if !none(impl.MateFall(m, false)) || !none(impl.MateFall(m, true)) || !none(impl.MateRise(m)) {
		t.Errorf("%s: it falls or rises", what)
	}
}

func TestMateValid(t *testing.T) {
	met := map[string]int{}
	check := func(c mateChange, m impl.Mate) {
		t.Helper()
		checkMateValid(t, "ahead of the change", m, true)
		c.change(&m)
		checkMateValid(t, c.what, m, c.breaks == "")
		if met[c.breaks]++; c.breaks == "" {
			checkMateValid(t, c.what+", risen", impl.MateRise(m), true)
			return
		}
		if faults := modelMateFaults(m); !slices.Equal(faults, []string{c.breaks}) {
			t.Errorf("%s: it breaks %q, not %q alone", c.what, faults, c.breaks)
		}
		checkNothing(t, c.what, m)
	}
	for _, c := range mateChanges() {
		check(c, fullMate())
	}
	for _, c := range downChanges() {
		check(c, downMate())
	}
	for _, n := range []int{math.MinInt, -1, 0, 1, 999999, 1000000, 1000001, math.MaxInt} {
		breaks := "clock"
		if n >= 0 && n <= 1000000 {
			breaks = ""
		}
		for _, m := range []impl.Mate{{Name: "a"}, {Name: "a", Up: true}, {Name: "a", Up: true, Known: true, Wants: severalWants()}} {
			check(mateChange{fmt.Sprint("clock ", n), breaks, func(m *impl.Mate) { m.Clock = n }}, m)
		}
	}
	for _, name := range []string{"", "name", "clock", "seen", "wants", "wants unheard", "runs", "asks", "gives", "both", "down known", "down seen", "down asks", "down gives", "down runs"} {
		if met[name] == 0 {
			t.Errorf("nothing breaks %q: %v", name, met)
		}
	}
	// Wants of one that is down are those of one that is not known; known and down break two.
	m := downMate()
	m.Wants = severalWants()
	checkMateValid(t, "down with wants", m, false)
	checkNothing(t, "down with wants", m)
	m.Known = true
	checkMateValid(t, "down with wants, and known", m, false)
	checkNothing(t, "down with wants, and known", m)
	m = downMate()
	m.Asks, m.Gives = asksCalled(1, "v"), asksCalled(1, "w")
	checkMateValid(t, "down with an ask and a give", m, false)
	checkNothing(t, "down with an ask and a give", m)
	checkMateValid(t, "nothing", impl.Mate{}, false)
	checkNothing(t, "nothing", impl.Mate{})
}

// The wants of a mate, and the want of each run, are asked as chapters 10 and 11 say.
func TestMateValidOfEachWant(t *testing.T) {
	for _, c := range allWantChanges() {
		m := impl.Mate{Name: "a", Up: true, Clock: 50, Known: true, Wants: []impl.MateWant{wantOf("c", "h")}}
		c.change(&m.Wants[0])
		checkMateValid(t, c.what, m, c.ok)
		m = impl.Mate{Name: "a", Up: true, Clock: 50, Runs: []impl.MateRun{{Want: wantOf("c", "h"), State: impl.MatePulling}}}
		c.change(&m.Runs[0].Want)
		checkMateValid(t, c.what, m, c.ok)
	}
}

func TestMateValidInGoodTime(t *testing.T) {
	inGoodTime(t, "lists that are far too long", func() {
		for _, up := range []bool{true, false} {
			for i := range 4 {
				m := impl.Mate{Name: "a", Up: up, Clock: 50, Known: up}
				switch i {
				case 0:
					m.Wants = slices.Repeat(severalWants()[:1], 100000)
				case 1:
					m.Runs = slices.Repeat(severalRuns()[:1], 100000)
				case 2:
					m.Asks = slices.Repeat(asksCalled(1, "v"), 100000)
				case 3:
					m.Gives = slices.Repeat(asksCalled(1, "v"), 100000)
				}
				checkNothing(t, "far too long", m)
			}
		}
		m := checkMateTake(t, fullMate(), toldTo(9, slices.Repeat(severalWants()[:1], 100000)...), noNote)
		if m.Seen != 3 {
			t.Errorf("it hears wants that are far too many: %+v", m)
		}
	})
}

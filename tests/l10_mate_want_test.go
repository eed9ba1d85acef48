package tests

import (
	"fmt"
	"math"
	"math/rand"
	"regexp"
	"slices"
	"strings"
	"sync"
	"testing"

	"loop.example/wharffleet/impl"
)

// A second reading of chapter 10, made another way than the program: names by a pattern, the order and the holds by lists that are sorted.

var modelMateName = regexp.MustCompile(`\A[!-~]{1,20}\z`)

func modelWantsOk(list []impl.MateWant) bool {
	var copies, holds []string
	for _, w := range list {
		copies = append(copies, w.Copy)
		if w.Hold != "" {
			holds = append(holds, w.Hold)
		}
		if !modelMateName.MatchString(w.Copy) || w.Version < 1 || w.Version > 1000000 {
			return false
		}
		for _, n := range []int{w.Pull, w.Start, w.Dies, w.Grace} {
			if n < 0 || n > 100 {
				return false
			}
		}
	}
	for _, h := range holds {
		if h == "*" || !modelMateName.MatchString(h) {
			return false
		}
	}
	return len(list) <= 10 && slices.Equal(copies, modelSet(copies)) && len(holds) == len(modelSet(holds))
}

// modelSet is a list ascending, each text once.
func modelSet(list []string) []string {
	list = slices.Clone(list)
	slices.Sort(list)
	return slices.Compact(list)
}

func checkWantsOk(t *testing.T, what string, list []impl.MateWant, want bool) {
	t.Helper()
	if got := impl.MateWantsOk(list); got != want {
		t.Errorf("%s: MateWantsOk is %v: %+v", what, got, list)
	}
	if got := modelWantsOk(list); got != want {
		t.Errorf("%s: the second reading is %v: %+v", what, got, list)
	}
}

// severalWants are ok, with holds and without.
func severalWants() []impl.MateWant {
	return []impl.MateWant{
		{Copy: "api", Version: 1, Hold: "vol", Pull: 3, Start: 2, Dies: 9, Grace: 4},
		{Copy: "batch", Version: 7},
		{Copy: "cache", Version: 1000000, Hold: "disk", Pull: 100, Start: 100, Dies: 100, Grace: 100},
		{Copy: "db", Version: 2, Grace: 1},
	}
}

func TestMateConstants(t *testing.T) {
	got := []int{impl.MateMaxName, impl.MateMaxTicks, impl.MateMaxWants, impl.MateMaxVersion, impl.MateMaxFalls, impl.MateMaxBackoff, impl.MateMaxClock, impl.MateLease, impl.MateRenew}
	if !slices.Equal(got, []int{20, 100, 10, 1000000, 1000, 16, 1000000, 16, 6}) {
		t.Error(got)
	}
	if got := []int{impl.MatePulling, impl.MateWaiting, impl.MateStarting, impl.MateReady, impl.MateBackoff, impl.MateStopping}; !slices.Equal(got, []int{1, 2, 3, 4, 5, 6}) {
		t.Error(got)
	}
}

func TestMateWantsOk(t *testing.T) {
	checkWantsOk(t, "no list", nil, true)
	checkWantsOk(t, "an empty list", []impl.MateWant{}, true)
	checkWantsOk(t, "several", severalWants(), true)
	for i := range severalWants() {
		checkWantsOk(t, "one", severalWants()[i:i+1], true)
		checkWantsOk(t, "all but some", severalWants()[i:], true)
		checkWantsOk(t, "all but one", slices.Delete(severalWants(), i, i+1), true)
	}
	checkWantsOk(t, "nothing wanted", []impl.MateWant{{}}, false)
	checkWantsOk(t, "one with the least", []impl.MateWant{{Copy: "c", Version: 1}}, true)
}

// wantChange is what a want is like when a change is done to one that is ok.
type wantChange struct {
	what   string
	ok     bool
	change func(w *impl.MateWant)
}

// wantChanges are of a want alone: its names, its bytes and its numbers at their limits and beyond them.
func wantChanges() []wantChange {
	var all []wantChange
	add := func(what string, ok bool, change func(w *impl.MateWant)) {
		all = append(all, wantChange{what, ok, change})
	}
	for _, n := range []int{0, 1, 2, 19, 20, 21, 40, 5000} {
		add(fmt.Sprintf("a copy of %d bytes", n), n >= 1 && n <= 20, func(w *impl.MateWant) { w.Copy = strings.Repeat("~", n) })
		add(fmt.Sprintf("a hold of %d bytes", n), n <= 20, func(w *impl.MateWant) { w.Hold = strings.Repeat("!", n) })
	}
	for b := range 256 {
		ok := b >= 33 && b <= 126
		for _, text := range []string{"", "x", "xy"} {
			for at := range len(text) + 1 {
				name := text[:at] + string([]byte{byte(b)}) + text[at:]
				add(fmt.Sprintf("the copy %q", name), ok, func(w *impl.MateWant) { w.Copy = name })
				add(fmt.Sprintf("the hold %q", name), ok && name != "*", func(w *impl.MateWant) { w.Hold = name })
			}
		}
	}
	for _, name := range []string{"**", "*x", "x*", "web.1/a=b", "Z", "()[]{}"} {
		add("the copy "+name, true, func(w *impl.MateWant) { w.Copy = name })
		add("the hold "+name, true, func(w *impl.MateWant) { w.Hold = name })
	}
	for _, name := range []string{"x y", " x", "x ", "x\n", "é", "x\x00", "\xff\xfe", "日本"} {
		add(fmt.Sprintf("the copy %q", name), false, func(w *impl.MateWant) { w.Copy = name })
		add(fmt.Sprintf("the hold %q", name), false, func(w *impl.MateWant) { w.Hold = name })
	}
	for _, n := range []int{math.MinInt, -1000000, -1, 0, 1, 2, 999999, 1000000, 1000001, math.MaxInt} {
		add(fmt.Sprintf("version %d", n), n >= 1 && n <= 1000000, func(w *impl.MateWant) { w.Version = n })
	}
	for _, n := range []int{math.MinInt, -100, -1, 0, 1, 50, 99, 100, 101, 1000, math.MaxInt} {
		ok := n >= 0 && n <= 100
		add(fmt.Sprintf("pull %d", n), ok, func(w *impl.MateWant) { w.Pull = n })
		add(fmt.Sprintf("start %d", n), ok, func(w *impl.MateWant) { w.Start = n })
		add(fmt.Sprintf("dies %d", n), ok, func(w *impl.MateWant) { w.Dies = n })
		add(fmt.Sprintf("grace %d", n), ok, func(w *impl.MateWant) { w.Grace = n })
	}
	return all
}

var allWantChanges = sync.OnceValue(wantChanges)

func TestMateWantsOkOfEachWant(t *testing.T) {
	for _, c := range allWantChanges() {
		alone := []impl.MateWant{{Copy: "c", Version: 1, Hold: "h"}}
		c.change(&alone[0])
		checkWantsOk(t, c.what, alone, c.ok)
		// Where it stands among others does not matter, as long as they ascend.
		for i := range 4 {
			list := severalWants()
			c.change(&list[i])
			ascends := slices.IsSortedFunc(list, func(a, b impl.MateWant) int { return strings.Compare(a.Copy, b.Copy) })
			checkWantsOk(t, c.what, list, c.ok && ascends)
		}
	}
}

func wantsCalled(copies ...string) []impl.MateWant {
	var list []impl.MateWant
	for _, c := range copies {
		list = append(list, impl.MateWant{Copy: c, Version: 1})
	}
	return list
}

func TestMateWantsAscend(t *testing.T) {
	checkWantsOk(t, "ascending", wantsCalled("!", "*", "-", "0", "A", "Z", "_", "a", "aa", "~"), true)
	checkWantsOk(t, "a beginning first", wantsCalled("a", "a!", "a!!", "a~"), true)
	for _, two := range [][2]string{{"a", "a"}, {"b", "a"}, {"a!", "a"}, {"a", "B"}, {"~", "}"}, {"a10", "a1"}, {"a9", "a10"}, {"", ""}} {
		checkWantsOk(t, "two that do not", wantsCalled(two[0], two[1]), false)
	}
	checkWantsOk(t, "the last does not", wantsCalled("a", "b", "c", "b"), false)
	checkWantsOk(t, "the last is the first", wantsCalled("a", "b", "c", "a"), false)
	checkWantsOk(t, "one twice in the middle", wantsCalled("a", "b", "b", "c"), false)
	checkWantsOk(t, "the first is too great", wantsCalled("z", "a", "b", "c"), false)
}

func TestMateWantsHolds(t *testing.T) {
	holding := func(holds ...string) []impl.MateWant {
		list := numbered(len(holds), func(name string) impl.MateWant { return impl.MateWant{Copy: name, Version: 1} })
		for i, h := range holds {
			list[i].Hold = h
		}
		return list
	}
	checkWantsOk(t, "no hold twice", holding("", ""), true)
	checkWantsOk(t, "no hold ten times", holding("", "", "", "", "", "", "", "", "", ""), true)
	checkWantsOk(t, "two holds", holding("h", "g"), true)
	checkWantsOk(t, "holds that are alike", holding("h", "H", "hh", "h!", "!h"), true)
	checkWantsOk(t, "a hold with the name of a copy", holding("n001", "n000"), true)
	checkWantsOk(t, "a hold with the name of its copy", holding("n000", "n001"), true)
	checkWantsOk(t, "two with one hold", holding("h", "h"), false)
	checkWantsOk(t, "two with one hold, another one between", holding("h", "g", "h"), false)
	checkWantsOk(t, "two with one hold, one without between", holding("h", "", "h"), false)
	checkWantsOk(t, "the first and the last with one hold", holding("h", "a", "b", "", "c", "d", "", "e", "f", "h"), false)
	checkWantsOk(t, "the last two with one hold", holding("", "a", "b", "", "c", "d", "", "e", "f", "f"), false)
	checkWantsOk(t, "three with one hold", holding("h", "h", "h"), false)
	checkWantsOk(t, "no hold is *", holding("*"), false)
	checkWantsOk(t, "no hold is * of the last", holding("", "h", "*"), false)
}

func TestMateWantsGreat(t *testing.T) {
	greatest := func(name string) impl.MateWant {
		return impl.MateWant{Copy: (name + strings.Repeat("~", 20))[:20], Version: 1000000, Hold: ("h" + name + strings.Repeat("~", 20))[:20], Pull: 100, Start: 100, Dies: 100, Grace: 100}
	}
	for _, n := range []int{9, 10, 11, 12, 20, 21, 500} {
		checkWantsOk(t, fmt.Sprint(n, " wants"), numbered(n, greatest), n <= 10)
		checkWantsOk(t, fmt.Sprint(n, " small wants"), numbered(n, func(name string) impl.MateWant { return impl.MateWant{Copy: name, Version: 1} }), n <= 10)
	}
	inGoodTime(t, "a list that is far too long", func() {
		checkWantsOk(t, "the same want again and again", slices.Repeat(severalWants()[:1], 100000), false)
	})
}

// randomWants are mostly ok, or nearly so.
func randomWants(r *rand.Rand) []impl.MateWant {
	copies := modelSet([]string{pickOf(r, "a", "b"), pickOf(r, "b", "ba"), pickOf(r, "c", "*"), pickOf(r, "d", "~~~"), strings.Repeat("e", r.Intn(22))})
	list := wantsCalled(copies[r.Intn(len(copies)):]...)
	for i := range list {
		list[i].Version = pickOf(r, 1, 1, 2, 1000000)
		list[i].Hold = pickOf(r, "", "", "h", "g", fmt.Sprint("h", i), fmt.Sprint("h", i))
		list[i].Pull, list[i].Start, list[i].Dies, list[i].Grace = r.Intn(5), r.Intn(5), r.Intn(5), pickOf(r, 0, 1, 5, 100)
	}
	if r.Intn(3) == 0 && len(list) > 0 {
		pickOf(r, allWantChanges()...).change(&list[r.Intn(len(list))])
	}
	if r.Intn(6) == 0 && len(list) > 1 {
		list[0], list[1] = list[1], list[0]
	}
	return list
}

func TestMateWantsOkAsRead(t *testing.T) {
	r := rand.New(rand.NewSource(49))
	met := map[bool]int{}
	for range 4000 {
		list := randomWants(r)
		want := modelWantsOk(list)
		met[want]++
		if got := impl.MateWantsOk(list); got != want {
			t.Fatalf("MateWantsOk is %v: %+v", got, list)
		}
	}
	if met[true] < 1000 || met[false] < 1000 {
		t.Errorf("the wants tell too little: %v", met)
	}
}

func TestMateWantsAreNotChanged(t *testing.T) {
	r := rand.New(rand.NewSource(50))
	for range 300 {
		list := append(randomWants(r), impl.MateWant{Copy: "behind", Hold: "h"}, impl.MateWant{})
		before := slices.Clone(list)
		impl.MateWantsOk(list[: len(list)-2 : len(list)])
		if !slices.Equal(list, before) {
			t.Fatalf("the wants were %+v, and are %+v", before, list)
		}
	}
}

package tests

import (
	"fmt"
	"math"
	"reflect"
	"slices"
	"strings"
	"testing"

	"loop.example/wharffleet/impl"
)

// fullLand is ok, and has some of all. Its grants: one of a place that wants it, one of a place that wants it no more, one that is over.
func fullLand() impl.MateLand {
	return impl.MateLand{
		Time: 100,
		Grants: []impl.MateGrant{
			{Hold: "disk", Berth: "a", Copy: "cache", At: 7, Until: 132},
			{Hold: "old", Berth: "b", Copy: "x", At: 0, Until: 100},
			{Hold: "vol", Berth: "c", Copy: "*", At: 1000000, Until: 101},
		},
		Places: []impl.MatePlace{
			{Berth: "a", Seen: 3, Wants: severalWants()},
			{Berth: "b", Seen: 1000000},
			{Berth: "c", Seen: 1, Wants: []impl.MateWant{wantOf("api", ""), wantOf("x", "old"), wantOf("y", "new")}},
		},
	}
}

// landChange breaks one condition of an ok book alone, the one of that name in the second reading, or none if it is "".
type landChange struct {
	what, breaks string
	change       func(l *impl.MateLand)
}

// notNames are none, of each kind: none at all, too long, bytes below and above those of names, and bytes of none within.
func notNames() []string {
	return []string{"", strings.Repeat("~", 21), " ", "\x7f", "a b", "a\n", "\na", "a\x00", "é", "\xff", strings.Repeat("x", 5000)}
}

// theirNames are names, up to their limits.
func theirNames() []string {
	return []string{"b", "!", "~", "**", "want", "0", strings.Repeat("~", 20)}
}

// landChanges are of any book that is ok; what breaks no condition brings one to its limit.
func landChanges() []landChange {
	var all []landChange
	add := func(what, breaks string, change func(l *impl.MateLand)) {
		all = append(all, landChange{what, breaks, change})
	}
	for _, n := range []int{-2, math.MinInt, 2000002, 4000000, math.MaxInt - 1} {
		add(fmt.Sprint("time ", n), "time", func(l *impl.MateLand) { l.Time, l.Grants = n, nil })
	}
	for _, n := range []int{1, 99, 101, 1999999} {
		add(fmt.Sprint("time ", n), "odd", func(l *impl.MateLand) { l.Time, l.Grants = n, nil })
	}
	for _, n := range []int{0, 2, 1999998, 2000000} {
		add(fmt.Sprint("time ", n), "", func(l *impl.MateLand) { l.Time, l.Grants = n, nil })
	}
	add("no grants and no places", "", func(l *impl.MateLand) { l.Grants, l.Places = nil, []impl.MatePlace{} })
	return slices.Concat(all, grantChanges(), placeChanges())
}

// grantChanges put one grant in the place of all, or many.
func grantChanges() []landChange {
	var all []landChange
	one := func(what, breaks string, change func(g *impl.MateGrant)) {
		all = append(all, landChange{what, breaks, func(l *impl.MateLand) {
			l.Grants = []impl.MateGrant{{Hold: "h", Berth: "a", Copy: "c", At: 5, Until: l.Time}}
			change(&l.Grants[0])
		}})
	}
	for _, name := range append(notNames(), "*") {
		one(fmt.Sprintf("the hold %q", name), "grant's hold", func(g *impl.MateGrant) { g.Hold = name })
	}
	for _, name := range notNames() {
		one(fmt.Sprintf("a grant's berth %q", name), "grant's berth", func(g *impl.MateGrant) { g.Berth = name })
		one(fmt.Sprintf("a grant's copy %q", name), "grant's copy", func(g *impl.MateGrant) { g.Copy = name })
	}
	for _, name := range theirNames() {
		one(fmt.Sprintf("a grant of %q", name), "", func(g *impl.MateGrant) { g.Hold, g.Berth, g.Copy = name, name, name })
	}
	one("the berth * and the copy *", "", func(g *impl.MateGrant) { g.Berth, g.Copy = "*", "*" })
	for _, n := range []int{math.MinInt, -1, 0, 1000000, 1000001, math.MaxInt} {
		breaks := map[bool]string{false: "grant's at"}[n == 0 || n == 1000000]
		one(fmt.Sprint("at ", n), breaks, func(g *impl.MateGrant) { g.At = n })
	}
	until := func(what, breaks string, of func(time int) int) {
		one("until "+what, breaks, func(g *impl.MateGrant) { g.Until = of(g.Until) })
	}
	until("0", "", func(int) int { return 0 })
	until("-1", "grant's until", func(int) int { return -1 })
	until("the least", "grant's until", func(int) int { return math.MinInt })
	until("the greatest", "grant's until", func(int) int { return math.MaxInt })
	for _, n := range []int{0, 1, 31, 32, 33, 34} {
		breaks := map[bool]string{false: "grant's until"}[n <= 32]
		until(fmt.Sprint("time and ", n), breaks, func(time int) int { return time + n })
	}
	many := func(what, breaks string, list []impl.MateGrant) {
		all = append(all, landChange{what, breaks, func(l *impl.MateLand) { l.Grants = list }})
	}
	for _, n := range []int{39, 40, 41, 80, 500} {
		many(fmt.Sprint(n, " grants"), map[bool]string{false: "grants"}[n <= 40], grantsCalled(n, "h"))
	}
	order := func(what, breaks string, holds ...string) {
		var list []impl.MateGrant
		for _, h := range holds {
			list = append(list, impl.MateGrant{Hold: h, Berth: "a", Copy: "c"})
		}
		many(what, breaks, list)
	}
	order("ascending", "", "!", "A", "a", "aa", "~")
	order("descending", "grants' order", "b", "a")
	order("twice", "grants' order", "a", "a")
	order("the last does not ascend", "grants' order", "a", "b", "d", "c")
	order("the last is the first", "grants' order", "a", "b", "d", "a")
	order("a beginning behind", "grants' order", "aa", "a")
	last := grantsCalled(40, "h")
	last[39].Until = -1
	many("40, the last of which is none", "grant's until", last)
	return all
}

// grantsCalled are so many, of holds that begin so, and over at any time.
func grantsCalled(n int, with string) []impl.MateGrant {
	return numbered(n, func(name string) impl.MateGrant {
		return impl.MateGrant{Hold: with + name, Berth: "b", Copy: "z", At: 3}
	})
}

// placeChanges put one place in the place of all, or several.
func placeChanges() []landChange {
	var all []landChange
	add := func(what, breaks string, places ...impl.MatePlace) {
		all = append(all, landChange{what, breaks, func(l *impl.MateLand) { l.Places = places }})
	}
	for _, name := range notNames() {
		add(fmt.Sprintf("a place's berth %q", name), "place's berth", impl.MatePlace{Berth: name, Seen: 1})
	}
	for _, name := range append(theirNames(), "*") {
		add(fmt.Sprintf("a place's berth %q", name), "", impl.MatePlace{Berth: name, Seen: 1})
	}
	for _, n := range []int{math.MinInt, -1, 0, 1, 2, 999999, 1000000, 1000001, math.MaxInt} {
		breaks := map[bool]string{false: "place's seen"}[n >= 1 && n <= 1000000]
		add(fmt.Sprint("seen ", n), breaks, impl.MatePlace{Berth: "a", Seen: n})
	}
	place := func(berth string, wants ...impl.MateWant) impl.MatePlace {
		return impl.MatePlace{Berth: berth, Seen: 1, Wants: wants}
	}
	add("a want of nothing", "place's wants", place("a"), place("b", impl.MateWant{}))
	add("wants that descend", "place's wants", place("a", wantOf("y", ""), wantOf("x", "")))
	add("one hold twice in a place", "place's wants", place("a", wantOf("x", "v"), wantOf("y", "v")))
	add("the hold * in a place", "place's wants", place("a", wantOf("x", "*")))
	for _, n := range []int{9, 10, 11, 500} {
		wants := numbered(n, func(name string) impl.MateWant { return wantOf(name, name) })
		add(fmt.Sprint(n, " wants"), map[bool]string{false: "place's wants"}[n <= 10], place("a"), place("b", wants...))
	}
	add("places that descend", "places' order", place("b"), place("a"))
	add("a place twice", "places' order", place("a"), place("a"))
	add("the last place is the first", "places' order", place("a"), place("b"), place("a"))
	add("a beginning behind", "places' order", place("aa"), place("a"))
	for _, n := range []int{3, 4, 5, 8, 500} {
		add(fmt.Sprint(n, " places"), map[bool]string{false: "places"}[n <= 4], numbered(n, func(name string) impl.MatePlace { return place(name) })...)
	}
	add("a hold in two places", "two places", place("a", wantOf("x", "v")), place("b", wantOf("x", "v")))
	add("a hold in two places, for two copies", "two places", place("a", wantOf("x", "v")), place("b", wantOf("y", "v")))
	add("a hold in the first and the last place", "two places", place("a", wantOf("w", ""), wantOf("x", "v")), place("b", wantOf("y", "u")), place("c"), place("d", wantOf("p", "q"), wantOf("z", "v")))
	add("a copy in two places", "", place("a", wantOf("x", "v")), place("b", wantOf("x", "w")), place("c", wantOf("x", "")))
	add("no hold in two places", "", place("a", wantOf("x", "")), place("b", wantOf("y", "")))
	return all
}

func TestMateLandOk(t *testing.T) {
	checkLandOk(t, "nothing", impl.MateLand{}, true)
	checkLandOk(t, "empty lists", impl.MateLand{Grants: []impl.MateGrant{}, Places: []impl.MatePlace{}}, true)
	checkLandOk(t, "a full one", fullLand(), true)
	checkLandOk(t, "the greatest", greatLand(), true)
	broken := map[string]bool{}
	for _, c := range landChanges() {
		l := fullLand()
		c.change(&l)
		checkLandOk(t, c.what, l, c.breaks == "")
		if got := modelLandFaults(l); c.breaks != "" && !reflect.DeepEqual(modelSet(got), []string{c.breaks}) {
			t.Errorf("%s: it breaks %q, not %q alone", c.what, got, c.breaks)
		}
		broken[c.breaks] = true
	}
	if len(broken) != 16 { // with none at all
		t.Errorf("not each condition is broken: %v", broken)
	}
}

// The lease that a grant may have hangs on the time, up to the last.
func TestMateLandOkUntil(t *testing.T) {
	for _, time := range []int{0, 2, 100, 1999998, 2000000} {
		for _, n := range []int{-1, 0, 1, time - 1, time, time + 1, time + 31, time + 32, time + 33, time + 34} {
			l := impl.MateLand{Time: time, Grants: []impl.MateGrant{{Hold: "h", Berth: "a", Copy: "c", Until: n}}}
			checkLandOk(t, fmt.Sprintf("time %d, until %d", time, n), l, n >= 0 && n <= time+32)
		}
	}
}

// Each want of a place is held to what is ok, wherever it stands.
func TestMateLandOkOfEachWant(t *testing.T) {
	for _, c := range allWantChanges() {
		for at := range 3 {
			l := fullLand()
			l.Places[at].Wants = []impl.MateWant{wantOf("q", "its")}
			c.change(&l.Places[at].Wants[0])
			if at != 0 && l.Places[at].Wants[0].Hold == "vol" {
				continue
			}
			checkLandOk(t, c.what, l, c.ok)
		}
	}
}

// toBook are parcels that an ok book would take.
func toBook() []impl.MateParcel {
	return []impl.MateParcel{
		{Kind: impl.MateAsked, Berth: "a", Hold: "disk", Copy: "cache", At: 9},
		{Kind: impl.MateAsked, Berth: "c", Hold: "new", Copy: "y"},
		{Kind: impl.MateBack, Berth: "a", Hold: "disk", Copy: "cache", At: 7},
		{Kind: impl.MateBack, Berth: "x", Hold: "none", Copy: "x"},
	}
}

func TestMateLandNotOk(t *testing.T) {
	none := func(l impl.MateLand) bool { return reflect.DeepEqual(plainLand(l), impl.MateLand{}) }
	for _, c := range landChanges() {
		if c.breaks == "" {
			continue
		}
		l := fullLand()
		c.change(&l)
		if impl.MateLandOk(l) {
			t.Errorf("%s: it is ok", c.what)
		}
		for _, put := range []struct {
			berth string
			wants []impl.MateWant
		}{{"a", nil}, {"new", nil}, {"a", []impl.MateWant{wantOf("x", "")}}, {"x y", nil}, {"a", []impl.MateWant{{}}}, {"b", severalWants()}} {
			if next, code := checkPut(t, l, put.berth, put.wants); code != 1 || !none(next) {
				t.Errorf("%s: MatePut is %+v, %d", c.what, next, code)
			}
		}
		if next, sent := checkLandTick(t, l); !none(next) || len(sent) != 0 {
			t.Errorf("%s: MateLandTick is %+v, %+v", c.what, next, sent)
		}
		for _, p := range append(toBook(), impl.MateParcel{}) {
			if next, sent := checkLandTake(t, l, p, noNote); !none(next) || len(sent) != 0 {
				t.Errorf("%s: MateLandTake is %+v, %+v", c.what, next, sent)
			}
		}
	}
}

package tests

import (
	"fmt"
	"math"
	"math/rand"
	"slices"
	"strings"
	"testing"

	"loop.example/wharffleet/impl"
)

// checkAsk holds PilotAsk of the copy me of an askedFleet, by an index of the fleet with and without it: both times it is what PilotChoose tells.
func checkAsk(t *testing.T, f impl.PilotFleet, want string) {
	t.Helper()
	if !impl.PilotValid(f) {
		t.Fatalf("not valid: %+v", f)
	}
	me := f.Copies[0]
	alone := cloneFleet(f)
	alone.Copies = alone.Copies[1:]
	for _, x := range []impl.PilotIndex{impl.PilotIndexOf(f), impl.PilotIndexOf(alone)} {
		if got := impl.PilotAsk(x, me); got != want || got != impl.PilotChoose(f, "me") || got != modelAsk(x, me) {
			t.Errorf("PilotAsk is %q, not %q: PilotChoose is %q, the second reading %q: %+v", got, want, impl.PilotChoose(f, "me"), modelAsk(x, me), f)
		}
	}
}

// closedBut is a fleet in which all berths but one are closed, so that it alone decides.
func closedBut(f impl.PilotFleet, berth string) impl.PilotFleet {
	f = cloneFleet(f)
	for i, b := range f.Berths {
		f.Berths[i].Closed = b.Name != berth
	}
	return f
}

func TestPilotAskWhetherItFits(t *testing.T) {
	const berth, zone = impl.PilotApartBerth, impl.PilotApartZone
	others := func(n int, o impl.PilotCopy) []impl.PilotCopy { return slices.Repeat([]impl.PilotCopy{o}, n) }
	for i, c := range []struct {
		fits string // signs for a1, a2 and b1: 1 where it fits
		f    impl.PilotFleet
	}{
		{"111", askedFleet(impl.PilotCopy{})},
		{"010", askedFleet(impl.PilotCopy{Fixed: "a2"})},
		{"000", askedFleet(impl.PilotCopy{Fixed: "none"})},
		{"100", askedFleet(impl.PilotCopy{Select: "ssd & color=red"})},
		{"011", askedFleet(impl.PilotCopy{Select: "zone=b"})},
		{"110", askedFleet(impl.PilotCopy{Select: "zone=a"})},
		{"111", askedFleet(impl.PilotCopy{}, impl.PilotCopy{At: "a1"})},
		{"011", askedFleet(impl.PilotCopy{Apart: berth}, impl.PilotCopy{At: "a1"})},
		{"011", askedFleet(impl.PilotCopy{}, impl.PilotCopy{At: "a1", Apart: berth})},
		{"001", askedFleet(impl.PilotCopy{Apart: zone}, impl.PilotCopy{At: "a1"})},
		{"001", askedFleet(impl.PilotCopy{}, impl.PilotCopy{At: "a1", Apart: zone})},
		{"001", askedFleet(impl.PilotCopy{Apart: berth}, impl.PilotCopy{At: "a1", Apart: zone})},
		{"011", askedFleet(impl.PilotCopy{}, impl.PilotCopy{At: "a1"}, impl.PilotCopy{At: "a1", Apart: berth})},
		{"001", askedFleet(impl.PilotCopy{}, impl.PilotCopy{At: "a2"}, impl.PilotCopy{At: "a1", Apart: zone}, impl.PilotCopy{At: "b1"})},
		{"111", askedFleet(impl.PilotCopy{Apart: zone}, impl.PilotCopy{At: "a1", Service: "db", Apart: zone})},
		{"111", askedFleet(impl.PilotCopy{Apart: zone}, impl.PilotCopy{Apart: zone})},
		{"000", askedFleet(impl.PilotCopy{Near: "db"})},
		{"000", askedFleet(impl.PilotCopy{Near: "db"}, impl.PilotCopy{Service: "db"})},
		{"110", askedFleet(impl.PilotCopy{Near: "db"}, impl.PilotCopy{Service: "db", At: "a2"})},
		{"001", askedFleet(impl.PilotCopy{Near: "db"}, impl.PilotCopy{Service: "db", At: "b1"})},
		{"111", askedFleet(impl.PilotCopy{Near: "web"})},
		{"111", askedFleet(impl.PilotCopy{Near: "web"}, impl.PilotCopy{}, impl.PilotCopy{At: "a1", Service: "db"})},
		{"001", askedFleet(impl.PilotCopy{Near: "web"}, impl.PilotCopy{At: "b1"})},
		{"000", askedFleet(impl.PilotCopy{Near: "none"}, impl.PilotCopy{At: "b1"})},
		{"111", askedFleet(impl.PilotCopy{}, others(9, impl.PilotCopy{At: "a1"})...)},
		{"011", askedFleet(impl.PilotCopy{}, others(10, impl.PilotCopy{At: "a1"})...)},
		{"111", askedFleet(impl.PilotCopy{Room: 10, Hold: 10})},
		{"000", askedFleet(impl.PilotCopy{Room: 11})},
		{"000", askedFleet(impl.PilotCopy{Hold: 11})},
		{"110", askedFleet(impl.PilotCopy{Room: 7}, impl.PilotCopy{At: "a2", Room: 3}, impl.PilotCopy{At: "b1", Room: 4})},
		{"110", askedFleet(impl.PilotCopy{Hold: 7}, impl.PilotCopy{At: "a2", Hold: 3}, impl.PilotCopy{At: "b1", Hold: 4})},
	} {
		for j, b := range []string{"a1", "a2", "b1"} {
			want := ""
			if c.fits[j] == '1' {
				want = b
			}
			checkAsk(t, closedBut(c.f, b), want)
			if t.Failed() {
				t.Fatalf("case %d", i)
			}
		}
		checkAsk(t, closedBut(c.f, "none"), "")
	}
}

func TestPilotAskWhichIsBest(t *testing.T) {
	at := func(berths ...string) []impl.PilotCopy {
		var list []impl.PilotCopy
		for _, b := range berths {
			list = append(list, impl.PilotCopy{At: b, Room: 1})
		}
		return list
	}
	like := func(s string, weight int) impl.PilotCopy {
		return impl.PilotCopy{Likes: []impl.PilotLike{{Select: "none", Weight: 9}, {Select: s, Weight: weight}}}
	}
	checkAsk(t, askedFleet(impl.PilotCopy{}), "a1")
	checkAsk(t, askedFleet(like("zone=b", 1)), "a2")
	checkAsk(t, askedFleet(like("zone=a", -1)), "b1")
	checkAsk(t, askedFleet(like("ssd", 1), at("a1", "a1", "a1", "a2")...), "a1")
	checkAsk(t, askedFleet(impl.PilotCopy{}, at("a1")...), "b1")
	checkAsk(t, askedFleet(impl.PilotCopy{}, at("a2", "b1", "b1")...), "a1")
	checkAsk(t, askedFleet(impl.PilotCopy{}, at("a1", "b1")...), "a2")
	checkAsk(t, askedFleet(impl.PilotCopy{}, impl.PilotCopy{At: "a1", Service: "db", Room: 1}), "a2")
	f := askedFleet(impl.PilotCopy{Room: 2}, impl.PilotCopy{At: "a2", Service: "db", Room: 3}, impl.PilotCopy{At: "b1", Service: "db", Room: 8})
	checkAsk(t, f, "a1")
	f.Pack = true
	checkAsk(t, f, "b1")
	f.Copies[0].Room = 3
	checkAsk(t, f, "a2")
	f.Berths = nil
	f.Copies = f.Copies[:1]
	checkAsk(t, f, "")
}

// What c is beside what a fleet asks of it: another name, another place, another service.
func TestPilotAskOfAnother(t *testing.T) {
	f := askedFleet(impl.PilotCopy{Service: "db"}, impl.PilotCopy{At: "a1", Apart: impl.PilotApartZone}, impl.PilotCopy{At: "b1", Room: 4})
	x := impl.PilotIndexOf(f)
	ask := func(c impl.PilotCopy, want string) {
		t.Helper()
		if got := impl.PilotAsk(x, c); got != want {
			t.Errorf("PilotAsk of %+v is %q, not %q", c, got, want)
		}
	}
	// One that stands is a copy more, whatever its name: it does not stand in its own place again.
	ask(f.Copies[1], "")
	ask(impl.PilotCopy{Name: "o00", Service: "web"}, "b1")
	ask(impl.PilotCopy{Name: "o00", Service: "web", Room: 7}, "")
	ask(impl.PilotCopy{Name: "o01", Service: "web", Room: 6, At: "b1"}, "b1")
	ask(impl.PilotCopy{Name: "o01", Service: "web", Room: 7, At: "b1"}, "")
	for _, at := range []string{"", "a1", "b1", "none", "A b", " ", name21, "\xff"} {
		ask(impl.PilotCopy{Name: "new", Service: "web", At: at}, "b1")
		ask(impl.PilotCopy{Name: "new", Service: "db", At: at}, "a1")
	}
	// A service that is not in the fleet has no copies.
	ask(impl.PilotCopy{Name: "new", Service: "none", Apart: impl.PilotApartZone}, "a1")
	ask(impl.PilotCopy{Name: "new", Service: "none", Near: "none"}, "a1")
	ask(impl.PilotCopy{Name: "new", Service: "none", Near: "web", Room: 10}, "a1")
	ask(impl.PilotCopy{Name: "new", Service: "none", Near: "other"}, "")
	ask(impl.PilotCopy{Name: name20, Service: name20, Near: name20}, "a1")
	// No index of a berth: nowhere.
	if got := impl.PilotAsk(impl.PilotIndex{}, f.Copies[0]); got != "" {
		t.Errorf("it is %q", got)
	}
}

func TestPilotAskNotValid(t *testing.T) {
	x := impl.PilotIndexOf(askedFleet(impl.PilotCopy{}))
	for i, c := range []struct {
		ok     bool
		change func(c *impl.PilotCopy)
	}{
		{true, func(c *impl.PilotCopy) {}},
		{true, func(c *impl.PilotCopy) { c.Name, c.Service = name20, name20 }},
		{true, func(c *impl.PilotCopy) { c.Rank, c.Born, c.Apart = 100, 1000000, 2 }},
		{true, func(c *impl.PilotCopy) { c.Likes = make([]impl.PilotLike, 5) }},
		{true, func(c *impl.PilotCopy) { c.Likes = []impl.PilotLike{{Weight: 9}, {Weight: -9}} }},
		{false, func(c *impl.PilotCopy) { *c = impl.PilotCopy{} }},
		{false, func(c *impl.PilotCopy) { c.Name = "" }},
		{false, func(c *impl.PilotCopy) { c.Name = "Me" }},
		{false, func(c *impl.PilotCopy) { c.Name = name21 }},
		{false, func(c *impl.PilotCopy) { c.Service = "" }},
		{false, func(c *impl.PilotCopy) { c.Service = "we b" }},
		{false, func(c *impl.PilotCopy) { c.Service = name21 }},
		{false, func(c *impl.PilotCopy) { c.Rank = -1 }},
		{false, func(c *impl.PilotCopy) { c.Rank = 101 }},
		{false, func(c *impl.PilotCopy) { c.Born = -1 }},
		{false, func(c *impl.PilotCopy) { c.Born = 1000001 }},
		{false, func(c *impl.PilotCopy) { c.Room = -1 }},
		{false, func(c *impl.PilotCopy) { c.Hold = -1 }},
		{false, func(c *impl.PilotCopy) { c.Select = "a b" }},
		{false, func(c *impl.PilotCopy) { c.Select = strings.Repeat(" ", 201) }},
		{false, func(c *impl.PilotCopy) { c.Likes = make([]impl.PilotLike, 6) }},
		{false, func(c *impl.PilotCopy) { c.Likes = []impl.PilotLike{{Weight: 10}} }},
		{false, func(c *impl.PilotCopy) { c.Likes = []impl.PilotLike{{}, {Select: "("}} }},
		{false, func(c *impl.PilotCopy) { c.Apart = 3 }},
		{false, func(c *impl.PilotCopy) { c.Apart = -1 }},
		{false, func(c *impl.PilotCopy) { c.Near = "A" }},
		{false, func(c *impl.PilotCopy) { c.Fixed = "a1 " }},
	} {
		me := impl.PilotCopy{Name: "me", Service: "web"}
		c.change(&me)
		want := ""
		if c.ok {
			want = "a1"
		}
		if got := impl.PilotAsk(x, me); got != want || got != modelAsk(x, me) {
			t.Errorf("case %d: PilotAsk of %+v is %q", i, me, got)
		}
	}
	// A berth may have more than a fleet's, but a copy may not ask for it.
	wide := impl.PilotIndex{Rows: []impl.PilotRow{{Berth: impl.PilotBerth{Name: "a1"}, Room: math.MaxInt, Hold: math.MaxInt}}}
	for room, want := range map[int]string{1000: "a1", 1001: "", math.MaxInt: "", -1: ""} {
		if got := impl.PilotAsk(wide, impl.PilotCopy{Name: "me", Service: "web", Room: room, Hold: max(room, 0)}); got != want {
			t.Errorf("with %d it is %q", room, got)
		}
	}
}

// At an x that is no index: the first zone and the first count with a name, the rows as they are, and of several that are equally good the first.
func TestPilotAskAtNoIndex(t *testing.T) {
	row := func(name, zone string, counts ...impl.PilotCount) impl.PilotRow {
		return impl.PilotRow{Berth: impl.PilotBerth{Name: name, Zone: zone}, Counts: counts}
	}
	web := func(n, apart, zone int) impl.PilotCount {
		return impl.PilotCount{Service: "web", N: n, Apart: apart, Zone: zone}
	}
	zone := func(name string, counts ...impl.PilotCount) impl.PilotZone {
		return impl.PilotZone{Name: name, Counts: counts}
	}
	me := impl.PilotCopy{Name: "me", Service: "web"}
	near, apart, own := me, me, me
	near.Near, own.Near, apart.Apart = "db", "web", impl.PilotApartZone
	db := impl.PilotCount{Service: "db", N: 1}
	for i, c := range []struct {
		x    impl.PilotIndex
		c    impl.PilotCopy
		want string
	}{
		// Rows of which none is better: the first, whatever its name.
		{impl.PilotIndex{Rows: []impl.PilotRow{row("z", "q"), row("a", "q"), row("m", "q")}}, me, "z"},
		{impl.PilotIndex{Rows: []impl.PilotRow{row("z", "q", web(1, 0, 0)), row("m", "q"), row("a", "q")}}, me, "m"},
		{impl.PilotIndex{Rows: []impl.PilotRow{row("", ""), row("a", "q")}}, me, ""},
		{impl.PilotIndex{Rows: []impl.PilotRow{row("No Name", "No Zone")}}, me, "No Name"},
		// Several rows with one berth are several.
		{impl.PilotIndex{Rows: []impl.PilotRow{row("z", "q", web(2, 1, 0)), row("z", "q"), row("a", "q", web(1, 0, 0))}}, me, "z"},
		{impl.PilotIndex{Rows: []impl.PilotRow{row("z", "q", web(2, 1, 0)), row("z", "q", web(2, 0, 0)), row("a", "q", web(1, 0, 0))}}, me, "a"},
		// Two counts with one service, on a berth, in a zone, in all.
		{impl.PilotIndex{Rows: []impl.PilotRow{row("a", "q", web(1, 1, 0), web(1, 0, 0)), row("b", "q", web(1, 0, 0), web(1, 1, 0))}}, me, "b"},
		{impl.PilotIndex{Rows: []impl.PilotRow{row("a", "q", web(2, 0, 0), web(0, 0, 0)), row("b", "q", web(1, 0, 0), web(3, 0, 0))}}, me, "b"},
		{impl.PilotIndex{Rows: []impl.PilotRow{row("a", "q"), row("b", "r")}, Zones: []impl.PilotZone{zone("q", web(1, 1, 1), web(1, 0, 0)), zone("r", web(1, 0, 0), web(1, 1, 1))}}, me, "b"},
		{impl.PilotIndex{Rows: []impl.PilotRow{row("a", "q"), row("b", "r")}, Zones: []impl.PilotZone{zone("q"), zone("r", web(1, 0, 0))}, Total: []impl.PilotCount{web(0, 0, 0), web(4, 0, 0)}}, own, "a"},
		{impl.PilotIndex{Rows: []impl.PilotRow{row("a", "q"), row("b", "r")}, Zones: []impl.PilotZone{zone("q"), zone("r", web(1, 0, 0))}, Total: []impl.PilotCount{web(4, 0, 0), web(0, 0, 0)}}, own, "b"},
		// Two zones with one name; a zone that is not told has nothing in it.
		{impl.PilotIndex{Rows: []impl.PilotRow{row("a", "q"), row("b", "r")}, Zones: []impl.PilotZone{zone("q", web(3, 0, 0)), zone("r", web(2, 0, 0)), zone("q")}}, me, "b"},
		{impl.PilotIndex{Rows: []impl.PilotRow{row("a", "q"), row("b", "r")}, Zones: []impl.PilotZone{zone("q"), zone("q", db), zone("r", db), zone("r")}}, near, "b"},
		{impl.PilotIndex{Rows: []impl.PilotRow{row("a", "q"), row("b", "r")}, Zones: []impl.PilotZone{zone("q", web(1, 0, 0))}}, apart, "b"},
		{impl.PilotIndex{Rows: []impl.PilotRow{row("a", "q", db), row("b", "r", db)}, Total: []impl.PilotCount{db}}, near, ""},
		// What a row says counts, not what its berth has, nor what other rows say.
		{impl.PilotIndex{Rows: []impl.PilotRow{{Berth: impl.PilotBerth{Name: "a", Zone: "q", Room: 9, Hold: 9}, Room: 3, Hold: 9}, {Berth: impl.PilotBerth{Name: "b", Zone: "q"}, Room: 4, Hold: 4}}}, impl.PilotCopy{Name: "me", Service: "web", Room: 4, Hold: 4}, "b"},
		{impl.PilotIndex{Rows: []impl.PilotRow{{Berth: impl.PilotBerth{Name: "a", Zone: "q"}, Stand: 10}, {Berth: impl.PilotBerth{Name: "b", Zone: "q"}, Stand: 9}}}, me, "b"},
		{impl.PilotIndex{Rows: []impl.PilotRow{{Berth: impl.PilotBerth{Name: "a", Zone: "q"}, Room: math.MinInt, Hold: 1}, {Berth: impl.PilotBerth{Name: "b", Zone: "q"}, Room: math.MaxInt}, {Berth: impl.PilotBerth{Name: "c", Zone: "q"}, Stand: math.MinInt}}}, me, "b"},
		{impl.PilotIndex{Pack: true, Rows: []impl.PilotRow{{Berth: impl.PilotBerth{Name: "a", Zone: "q"}, Room: math.MinInt, Hold: 1}, {Berth: impl.PilotBerth{Name: "b", Zone: "q"}, Room: math.MaxInt}, {Berth: impl.PilotBerth{Name: "c", Zone: "q"}, Stand: math.MinInt}}}, me, "c"},
		// Marks that are none count for nothing, nor does a zone that is no name.
		{impl.PilotIndex{Rows: []impl.PilotRow{{Berth: impl.PilotBerth{Name: "a", Zone: "q=r", Marks: []string{"ssd ", "SSD", "zone=q=r"}}}, {Berth: impl.PilotBerth{Name: "b", Zone: "q", Marks: []string{"b", "a", "b"}}}}}, impl.PilotCopy{Name: "me", Service: "web", Select: "zone"}, "b"},
	} {
		if got := impl.PilotAsk(c.x, c.c); got != c.want || got != modelAsk(c.x, c.c) {
			t.Errorf("case %d: PilotAsk is %q, not %q; the second reading has %q", i, got, c.want, modelAsk(c.x, c.c))
		}
	}
}

// anyIndex is one whose lists are cut, doubled and mixed; each count for itself could be.
func anyIndex(r *rand.Rand, x impl.PilotIndex) impl.PilotIndex {
	x = cloneIndex(x)
	count := func() impl.PilotCount {
		zone := pickOf(r, 0, 0, 0, 1)
		apart := zone + pickOf(r, 0, 0, 0, 1)
		return impl.PilotCount{Service: pickOf(r, "db", "web", "cache", "other"), Zone: zone, Apart: apart, N: apart + r.Intn(2)}
	}
	mixed := func(counts []impl.PilotCount) []impl.PilotCount {
		for range r.Intn(3) {
			counts = slices.Insert(counts, r.Intn(len(counts)+1), count())
		}
		return counts
	}
	for range r.Intn(3) {
		if len(x.Rows) > 0 {
			row := pickOf(r, x.Rows...)
			row.Counts, row.Room, row.Hold = mixed(slices.Clone(row.Counts)), row.Room+r.Intn(5)-2, row.Hold+r.Intn(5)-2
			x.Rows = slices.Insert(x.Rows, r.Intn(len(x.Rows)+1), row)
		}
		x.Zones = slices.Insert(x.Zones, r.Intn(len(x.Zones)+1), impl.PilotZone{Name: pickOf(r, "east", "west", "north"), Counts: mixed(nil)})
	}
	if r.Intn(3) == 0 {
		x.Rows = x.Rows[r.Intn(len(x.Rows)+1):]
	}
	r.Shuffle(len(x.Rows), func(i, j int) { x.Rows[i], x.Rows[j] = x.Rows[j], x.Rows[i] })
	for i := range x.Zones {
		x.Zones[i].Counts = mixed(x.Zones[i].Counts)
	}
	x.Total = mixed(x.Total)
	return x
}

func TestPilotAskAtAnyIndexRandom(t *testing.T) {
	t.Parallel()
	r := rand.New(rand.NewSource(46))
	told := map[string]int{}
	for range 4000 {
		f := roomyFleet(r)
		x := anyIndex(r, impl.PilotIndexOf(f))
		for range 4 {
			c := randomCopyOf(r, f)
			got := impl.PilotAsk(x, c)
			told[fmt.Sprint(got != "")]++
			if want := modelAsk(x, c); got != want {
				t.Fatalf("PilotAsk(%+v, %+v) is %q, not %q", x, c, got, want)
			}
		}
	}
	if told["true"] < 1000 || told["false"] < 1000 {
		t.Errorf("%v: the indexes tell too little", told)
	}
}

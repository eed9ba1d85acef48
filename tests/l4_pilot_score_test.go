package tests

import (
	"math"
	"math/rand"
	"testing"

	"loop.example/wharffleet/impl"
)

// checkScores holds the scores of the copy me on the three berths of an askedFleet; they are the same wherever it stands now.
func checkScores(t *testing.T, f impl.PilotFleet, want ...impl.PilotScore) {
	t.Helper()
	if !impl.PilotValid(f) {
		t.Fatalf("not valid: %+v", f)
	}
	for _, at := range []string{"", "a1", "a2", "b1"} {
		moved := withCopyAt(f, "me", at)
		if !impl.PilotValid(moved) {
			continue
		}
		for i, b := range []string{"a1", "a2", "b1"} {
			if got := impl.PilotScoreOf(moved, "me", b); got != want[i] {
				t.Errorf("on %s, standing on %q: %+v, not %+v: %+v", b, at, got, want[i], f.Copies)
			}
		}
	}
}

func TestPilotScoreOfLikes(t *testing.T) {
	likes := func(likes ...impl.PilotLike) impl.PilotFleet { return askedFleet(impl.PilotCopy{Likes: likes}) }
	want := func(a1, a2, b1 int) []impl.PilotScore {
		return []impl.PilotScore{{Like: a1, Left: 10}, {Like: a2, Left: 10}, {Like: b1, Left: 10}}
	}
	checkScores(t, likes(), want(0, 0, 0)...)
	checkScores(t, likes(impl.PilotLike{Select: "ssd", Weight: 5}), want(5, 0, 0)...)
	checkScores(t, likes(impl.PilotLike{Select: "!ssd", Weight: 5}), want(0, 5, 5)...)
	checkScores(t, likes(impl.PilotLike{Select: "ssd", Weight: -9}), want(-9, 0, 0)...)
	checkScores(t, likes(impl.PilotLike{Select: "ssd"}), want(0, 0, 0)...)
	checkScores(t, likes(impl.PilotLike{Weight: 3}), want(3, 3, 3)...)
	checkScores(t, likes(impl.PilotLike{Select: "none", Weight: 9}), want(0, 0, 0)...)
	// The zone is a mark more, also beside one with its name.
	checkScores(t, likes(impl.PilotLike{Select: "zone=a", Weight: 2}, impl.PilotLike{Select: "zone=b", Weight: 5}), want(2, 7, 5)...)
	checkScores(t, likes(impl.PilotLike{Select: "zone", Weight: -1}), want(-1, -1, -1)...)
	// What is met by several is their sum; the same like twice counts twice.
	checkScores(t, likes(impl.PilotLike{Select: "ssd", Weight: 9}, impl.PilotLike{Select: "color=red", Weight: -4}, impl.PilotLike{Select: "zone=b", Weight: -3}, impl.PilotLike{Select: "ssd", Weight: 9}, impl.PilotLike{Select: " ", Weight: 1}), want(15, -2, -2)...)
}

func TestPilotScoreOfOthers(t *testing.T) {
	checkScores(t, askedFleet(impl.PilotCopy{Room: 4, Hold: 3},
		impl.PilotCopy{At: "a1", Room: 2, Hold: 9}, impl.PilotCopy{At: "a1", Room: 1}, impl.PilotCopy{At: "a2"}, impl.PilotCopy{At: "b1", Room: 1},
		impl.PilotCopy{At: "b1", Service: "db", Room: 2}, impl.PilotCopy{At: "a2", Service: "db"}, impl.PilotCopy{Room: 9}),
		impl.PilotScore{Zone: 3, Berth: 2, Left: 3}, impl.PilotScore{Zone: 3, Berth: 1, Left: 6}, impl.PilotScore{Zone: 1, Berth: 1, Left: 3})
	checkScores(t, askedFleet(impl.PilotCopy{Room: 10}, impl.PilotCopy{At: "a2"}), impl.PilotScore{Zone: 1}, impl.PilotScore{Zone: 1, Berth: 1}, impl.PilotScore{})
}

// A score is told of berths, too, that the copy does not fit on.
func TestPilotScoreOfWhereItDoesNotFit(t *testing.T) {
	f := askedFleet(impl.PilotCopy{Room: 1000, Fixed: "none", Select: "none", Near: "none", Apart: impl.PilotApartZone, Likes: []impl.PilotLike{{Select: "ssd", Weight: 7}}},
		impl.PilotCopy{At: "a1", Room: 10}, impl.PilotCopy{At: "b1", Room: 9})
	f.Berths[1].Closed = true
	checkScores(t, f, impl.PilotScore{Like: 7, Zone: 1, Berth: 1, Left: -1000}, impl.PilotScore{Zone: 1, Left: -990}, impl.PilotScore{Zone: 1, Berth: 1, Left: -999})
}

// bestFirst are scores, each better than all behind it without pack.
func bestFirst() []impl.PilotScore {
	return []impl.PilotScore{
		{Like: math.MaxInt, Zone: 9, Berth: 9, Left: -9}, {Like: 1, Zone: 9, Berth: 9, Left: -9},
		{Like: 0, Zone: math.MinInt, Berth: 9, Left: -9}, {Like: 0, Zone: -1, Berth: 9, Left: -9}, {Like: 0, Zone: 0, Berth: math.MinInt, Left: -9}, {Like: 0, Zone: 0, Berth: -1, Left: -9},
		{Left: math.MaxInt}, {Left: 1}, {}, {Left: -1}, {Left: math.MinInt},
		{Berth: 1, Left: 9}, {Berth: math.MaxInt, Left: 9}, {Zone: 1, Berth: -9, Left: 9}, {Zone: math.MaxInt, Berth: -9, Left: 9},
		{Like: -1, Zone: -9, Berth: -9, Left: 9}, {Like: math.MinInt, Zone: -9, Berth: -9, Left: 9},
	}
}

func TestPilotBetter(t *testing.T) {
	list := bestFirst()
	for i, a := range list {
		for j, b := range list {
			if got := impl.PilotBetter(a, b, false); got != (i < j) {
				t.Errorf("PilotBetter(%+v, %+v, false) is %v", a, b, got)
			}
			// With pack what is decided by Left alone is the other way round.
			want := i < j
			if a.Like == b.Like && a.Zone == b.Zone && a.Berth == b.Berth {
				want = i > j
			}
			if got := impl.PilotBetter(a, b, true); got != want {
				t.Errorf("PilotBetter(%+v, %+v, true) is %v", a, b, got)
			}
		}
	}
}

// All scores of three numbers each way.
func TestPilotBetterAll(t *testing.T) {
	var all []impl.PilotScore
	for n := range 81 {
		all = append(all, impl.PilotScore{Like: n/27 - 1, Zone: n / 9 % 3, Berth: n / 3 % 3, Left: n%3 - 1})
	}
	for _, a := range all {
		for _, b := range all {
			for _, pack := range []bool{false, true} {
				if got := impl.PilotBetter(a, b, pack); got != modelBetter(a, b, pack) {
					t.Fatalf("PilotBetter(%+v, %+v, %v) is %v", a, b, pack, got)
				}
			}
		}
	}
}

func checkChoice(t *testing.T, f impl.PilotFleet, want string) {
	t.Helper()
	if !impl.PilotValid(f) {
		t.Fatalf("not valid: %+v", f)
	}
	if got := impl.PilotChoose(f, "me"); got != want {
		t.Errorf("PilotChoose is %q, not %q: %+v", got, want, f)
	}
}

func TestPilotChoose(t *testing.T) {
	at := func(berths ...string) []impl.PilotCopy {
		var list []impl.PilotCopy
		for _, b := range berths {
			list = append(list, impl.PilotCopy{At: b, Room: 1})
		}
		return list
	}
	like := func(s string, weight int) impl.PilotCopy {
		return impl.PilotCopy{Likes: []impl.PilotLike{{Select: s, Weight: weight}}}
	}
	// All are equal: the least Name.
	checkChoice(t, askedFleet(impl.PilotCopy{}), "a1")
	checkChoice(t, askedFleet(impl.PilotCopy{Fixed: "b1"}), "b1")
	checkChoice(t, askedFleet(impl.PilotCopy{Select: "!ssd"}), "a2")
	// What is liked counts most, then the zone, then the berth, then what is left.
	checkChoice(t, askedFleet(like("zone=b", 1)), "a2")
	checkChoice(t, askedFleet(like("zone=a", -1)), "b1")
	checkChoice(t, askedFleet(like("ssd", 1), at("a1", "a1", "a1", "a2")...), "a1")
	checkChoice(t, askedFleet(impl.PilotCopy{}, at("a1")...), "b1")
	checkChoice(t, askedFleet(impl.PilotCopy{}, at("a2", "b1", "b1")...), "a1")
	checkChoice(t, askedFleet(impl.PilotCopy{}, at("a1", "b1")...), "a2")
	checkChoice(t, askedFleet(impl.PilotCopy{}, at("a2", "b1")...), "a1")
	checkChoice(t, askedFleet(impl.PilotCopy{}, impl.PilotCopy{At: "a1", Service: "db", Room: 1}), "a2")
	// It itself is not counted, where it stands.
	checkChoice(t, askedFleet(impl.PilotCopy{At: "a1", Room: 10}), "a1")
	checkChoice(t, askedFleet(impl.PilotCopy{At: "b1", Room: 10}), "a1")
	checkChoice(t, askedFleet(impl.PilotCopy{At: "a1"}, at("a1", "b1")...), "a2")
	checkChoice(t, askedFleet(impl.PilotCopy{At: "b1", Apart: impl.PilotApartZone}), "a1")
}

func TestPilotChoosePack(t *testing.T) {
	f := askedFleet(impl.PilotCopy{Room: 2}, impl.PilotCopy{At: "a2", Service: "db", Room: 3}, impl.PilotCopy{At: "b1", Service: "db", Room: 8})
	checkChoice(t, f, "a1")
	f.Pack = true
	checkChoice(t, f, "b1")
	f.Copies[0].Room = 3
	checkChoice(t, f, "a2")
	f.Copies[0].Room = 8
	checkChoice(t, f, "a1")
	f.Copies = f.Copies[:1]
	checkChoice(t, f, "a1")
}

func TestPilotChooseNone(t *testing.T) {
	checkChoice(t, askedFleet(impl.PilotCopy{Room: 11}), "")
	checkChoice(t, askedFleet(impl.PilotCopy{Select: "none"}), "")
	checkChoice(t, askedFleet(impl.PilotCopy{Fixed: "none"}), "")
	f := askedFleet(impl.PilotCopy{Fixed: "a1"})
	f.Berths[0].Closed = true
	checkChoice(t, f, "")
	checkChoice(t, withCopyAt(f, "me", "a1"), "")
	f.Copies[0].Fixed = ""
	checkChoice(t, f, "a2")
	checkChoice(t, withCopyAt(f, "me", "a1"), "a2")
	f.Berths = nil
	checkChoice(t, f, "")
	var full []impl.PilotCopy
	for range 10 {
		full = append(full, impl.PilotCopy{At: "a1", Service: "db"}, impl.PilotCopy{At: "a2", Service: "db"}, impl.PilotCopy{At: "b1", Service: "db"})
	}
	checkChoice(t, askedFleet(impl.PilotCopy{}, full...), "")
	checkChoice(t, askedFleet(impl.PilotCopy{}, full[1:]...), "a1")
	checkChoice(t, askedFleet(impl.PilotCopy{}, full[:29]...), "b1")
}

// checkNoScores holds what layer 4 answers in a fleet that is not valid, of all that could be there.
func checkNoScores(t *testing.T, what string, f impl.PilotFleet) {
	t.Helper()
	copies, berths := []string{"", "none", "me", "a1"}, []string{"", "none", "a1"}
	for _, c := range f.Copies {
		copies = append(copies, c.Name)
	}
	for _, b := range f.Berths {
		berths = append(berths, b.Name)
	}
	for _, c := range copies {
		if got := impl.PilotChoose(f, c); got != "" {
			t.Errorf("%s: PilotChoose(%q) is %q", what, c, got)
		}
		for _, b := range berths {
			if got := impl.PilotScoreOf(f, c, b); got != (impl.PilotScore{}) {
				t.Errorf("%s: PilotScoreOf(%q, %q) is %+v", what, c, b, got)
			}
		}
	}
}

func TestPilotScoresUnknown(t *testing.T) {
	f := askedFleet(impl.PilotCopy{Likes: []impl.PilotLike{{Weight: 1}}})
	for _, unknown := range [][2]string{{"me", "none"}, {"none", "a1"}, {"", ""}, {"a1", "me"}, {"Me", "a1"}, {"me", ""}, {"", "a1"}, {"me ", "a1"}} {
		if got := impl.PilotScoreOf(f, unknown[0], unknown[1]); got != (impl.PilotScore{}) {
			t.Errorf("PilotScoreOf(%q) is %+v", unknown, got)
		}
	}
	for _, unknown := range []string{"", "none", "a1", "Me", "me ", "m", "web"} {
		if got := impl.PilotChoose(f, unknown); got != "" {
			t.Errorf("PilotChoose(%q) is %q", unknown, got)
		}
	}
}

// checkPromise3 holds promise 3 by what the program itself says of fits and scores, and the second reading of both; it tells how many berths were as good as the one that is chosen.
func checkPromise3(t *testing.T, f impl.PilotFleet, c impl.PilotCopy) int {
	t.Helper()
	chosen := impl.PilotChoose(f, c.Name)
	if want := modelChoose(f, c); chosen != want {
		t.Fatalf("PilotChoose(%+v, %q) is %q, not %q", f, c.Name, chosen, want)
	}
	best := impl.PilotScoreOf(f, c.Name, chosen)
	fits, equal := false, 0
	for _, b := range f.Berths {
		score := impl.PilotScoreOf(f, c.Name, b.Name)
		if want := modelScore(f, c, b); score != want {
			t.Fatalf("PilotScoreOf(%+v, %q, %q) is %+v, not %+v", f, c.Name, b.Name, score, want)
		}
		if impl.PilotFits(f, c.Name, b.Name) != 0 {
			continue
		}
		fits = fits || b.Name == chosen
		if chosen == "" || impl.PilotBetter(score, best, f.Pack) || b.Name < chosen && !impl.PilotBetter(best, score, f.Pack) {
			t.Fatalf("PilotChoose(%+v, %q) is %q, and %q is there", f, c.Name, chosen, b.Name)
		}
		if score == best {
			equal++
		}
	}
	if chosen != "" && !fits {
		t.Fatalf("PilotChoose(%+v, %q) is %q, where it does not fit", f, c.Name, chosen)
	}
	return equal
}

// evenFleet is the fleet with berths that differ in Name and Closed alone, on which nothing stands.
func evenFleet(f impl.PilotFleet) impl.PilotFleet {
	f = cloneFleet(f)
	for i := range f.Berths {
		f.Berths[i].Zone, f.Berths[i].Marks, f.Berths[i].Room, f.Berths[i].Hold = "west", []string{"ssd"}, 12, 12
	}
	for i := range f.Copies {
		f.Copies[i].At = ""
	}
	return f
}

func TestPromise3Random(t *testing.T) {
	t.Parallel()
	r := rand.New(rand.NewSource(8))
	equal := map[int]int{}
	for i := range 3000 {
		f := randomFleet(r)
		if i%2 == 0 {
			f = evenFleet(f)
		}
		for _, c := range f.Copies {
			equal[checkPromise3(t, f, c)]++
		}
	}
	for n := range 4 {
		if equal[n] < 30 {
			t.Errorf("%d berths were equally good %d times: the fleets tell too little", n, equal[n])
		}
	}
}

func TestPilotScoresNotValid(t *testing.T) {
	r := rand.New(rand.NewSource(9))
	met := 0
	for range 1500 {
		f := randomFleet(r)
		breaks(r, &f)
		if fault := modelFleetFault(f); fault != "" {
			checkNoScores(t, fault, f)
			met++
		}
	}
	if met < 300 {
		t.Errorf("%d fleets were not valid", met)
	}
}

func TestPilotScoresChangeNothing(t *testing.T) {
	r := rand.New(rand.NewSource(10))
	for i := range 300 {
		f := randomFleet(r)
		if i%3 == 0 {
			breaks(r, &f)
		}
		checkUnchanged(t, f, func(f impl.PilotFleet) {
			for _, c := range f.Copies {
				impl.PilotChoose(f, c.Name)
				impl.PilotScoreOf(f, c.Name, "b0")
			}
		})
	}
}

package tests

import (
	"fmt"
	"math"
	"math/rand"
	"slices"
	"strings"
	"sync"
	"testing"

	"loop.example/wharffleet/impl"
)

// spareFleet has so many copies of web to spare; standing has a sign for each copy: the number of its berth, or - if it waits.
func spareFleet(spare int, standing string) impl.PilotFleet {
	f := lineOf(make([]impl.PilotCopy, len(standing))...)
	for i, at := range standing {
		f.Copies[i].At = map[rune]string{'1': "a1", '2': "a2", '3': "b1"}[at]
	}
	f.Services[1].Spare = spare
	return f
}

func checkMayGo(t *testing.T, f impl.PilotFleet, gone string, want bool) {
	t.Helper()
	if !impl.PilotValid(f) {
		t.Fatalf("not valid: %+v", f)
	}
	if got := impl.PilotMayGo(f, strings.Fields(gone)); got != want {
		t.Errorf("PilotMayGo(%+v, %q) is %v", f, gone, got)
	}
}

func TestPilotMayGo(t *testing.T) {
	for _, c := range []struct {
		spare    int
		standing string
		gone     string
		want     bool
	}{
		{0, "", "", true}, {0, "111", "", true}, {0, "111", "a", false}, {1, "111", "a", true}, {1, "111", "c", true},
		{1, "111", "a b", false}, {2, "123", "a b", true}, {2, "123", "a c", true}, {2, "123", "a b c", false}, {3, "123", "a b c", true}, {60, "123", "a b c", true},
		// What waits already counts.
		{1, "11-", "a", false}, {2, "11-", "a", true}, {2, "11-", "a b", false}, {3, "11-", "a b", true},
		{1, "11--", "a", false}, {0, "11--", "a", false}, {0, "11--", "", true}, {1, "11--", "", true}, {3, "11--", "a", true}, {3, "11--", "a b", false},
		// Ascending names of copies that stand.
		{9, "111", "b a", false}, {9, "111", "a a", false}, {9, "111", "a b b", false}, {9, "111", "a c b", false}, {9, "111", "none", false}, {9, "111", "a d", false},
		{9, "1-1", "b", false}, {9, "1-1", "a b", false}, {9, "1-1", "a c", true}, {9, "111", "A", false}, {9, "111", "a1", false}, {9, "111", "web", false},
	} {
		checkMayGo(t, spareFleet(c.spare, c.standing), c.gone, c.want)
	}
	f := spareFleet(9, "111")
	for _, gone := range [][]string{{""}, {"a", ""}, {"", "a"}, {"a "}, {"a b"}} {
		if impl.PilotMayGo(f, gone) {
			t.Errorf("%q may go", gone)
		}
	}
	if !impl.PilotMayGo(f, []string{}) || !impl.PilotMayGo(f, nil) || !impl.PilotMayGo(impl.PilotFleet{}, nil) {
		t.Error("nobody may not go")
	}
}

// Each service is counted for itself, and only those that are among gone.
func TestPilotMayGoServices(t *testing.T) {
	f := spareFleet(1, "1111--")
	f.Copies[2].Service, f.Copies[3].Service, f.Copies[4].Service = "db", "db", "db"
	for _, c := range []struct {
		db, web int
		gone    string
		want    bool
	}{
		{2, 2, "a c", true}, {2, 2, "a b", false}, {2, 2, "c d", false}, {3, 2, "c d", true}, {3, 2, "a c d", true}, {3, 3, "a b c d", true},
		{1, 2, "a", true}, {1, 2, "c", false}, {1, 2, "a c", false}, {2, 1, "a c", false}, {2, 1, "c", true}, {0, 2, "a", true}, {2, 0, "c", true},
	} {
		f.Services[0].Spare, f.Services[1].Spare = c.db, c.web
		checkMayGo(t, f, c.gone, c.want)
	}
}

func TestPilotHarm(t *testing.T) {
	var list []impl.PilotCopy
	for _, rank := range []int{3, 100, 0, 3, 7} {
		list = append(list, impl.PilotCopy{Rank: rank, At: "a1"})
	}
	f := lineOf(list...)
	f.Copies[4].At = ""
	for gone, want := range map[string]string{
		"": "[]", "a": "[3]", "c": "[0]", "a b": "[100 3]", "b a": "[100 3]", "a b c d e": "[100 7 3 3 0]", "e d c b a": "[100 7 3 3 0]", "c a d": "[3 3 0]",
		"e": "[7]", "a a": "[3 3]", "none": "[]", "a none": "[]", "none a": "[]", "A": "[]", "a1": "[]", "web": "[]",
	} {
		if got := fmt.Sprint(impl.PilotHarm(f, strings.Fields(gone))); got != want {
			t.Errorf("PilotHarm of %q is %s, not %s", gone, got, want)
		}
	}
	if got := impl.PilotHarm(f, []string{"a", ""}); len(got) != 0 {
		t.Errorf("PilotHarm of no name is %v", got)
	}
}

func TestPilotLess(t *testing.T) {
	// Each is less than all behind it; they need not be harms at all.
	list := [][]int{
		nil, {math.MinInt}, {-1, 9}, {0}, {0, 0}, {0, 0, 0}, {0, 5}, {1}, {1, 0}, {1, 1}, {1, 1, 1}, {2}, {3}, {3, 0}, {3, 1}, {3, 2, 2}, {3, 3}, {4}, {100, 99, 98}, {100, 100}, {math.MaxInt}, {math.MaxInt, math.MinInt},
	}
	for i, a := range list {
		for j, b := range list {
			if got := impl.PilotLess(slices.Clone(a), slices.Clone(b)); got != (i < j) {
				t.Errorf("PilotLess(%v, %v) is %v", a, b, got)
			}
		}
	}
	if impl.PilotLess([]int{}, nil) || impl.PilotLess(nil, []int{}) || !impl.PilotLess([]int{}, []int{0}) {
		t.Error("the empty list is another one than nil")
	}
}

// manyFleet lets the copy me wait, of db and with a Rank of 9, and has enough to spare of web, of which are the others.
func manyFleet(me impl.PilotCopy, others ...impl.PilotCopy) impl.PilotFleet {
	me.Service, me.Rank = "db", 9
	f := askedFleet(me, others...)
	f.Services[0].Spare, f.Services[1].Spare = 20, 20
	return f
}

// ranked are copies on a1 that take a Room each; they are named o00, o01..
func ranked(room int, ranks ...int) []impl.PilotCopy {
	var list []impl.PilotCopy
	for _, rank := range ranks {
		list = append(list, impl.PilotCopy{At: "a1", Rank: rank, Room: room})
	}
	return list
}

// checkVictims holds those of the copy me on a1, told as the ends of their names; - is none at all.
func checkVictims(t *testing.T, f impl.PilotFleet, want string) {
	t.Helper()
	if !impl.PilotValid(f) {
		t.Fatalf("not valid: %+v", f)
	}
	gone, ok := impl.PilotVictims(f, "me", "a1")
	got := strings.ReplaceAll(strings.Join(gone, " "), "o0", "")
	if !ok {
		got += "-"
	}
	if got != want {
		t.Errorf("PilotVictims is %q, not %q: %+v", got, want, f)
	}
}

func TestPilotVictims(t *testing.T) {
	room := func(n int) impl.PilotCopy { return impl.PilotCopy{Room: n} }
	// None need go, one, several, all.
	checkVictims(t, manyFleet(room(10)), "")
	checkVictims(t, manyFleet(room(4), ranked(2, 1, 2, 3)...), "")
	checkVictims(t, manyFleet(room(5), ranked(2, 1, 2, 3)...), "0")
	checkVictims(t, manyFleet(room(5), ranked(2, 3, 2, 1)...), "2")
	checkVictims(t, manyFleet(room(7), ranked(2, 3, 2, 1)...), "1 2")
	checkVictims(t, manyFleet(room(10), ranked(2, 3, 2, 1)...), "0 1 2")
	checkVictims(t, manyFleet(room(11), ranked(2, 3, 2, 1)...), "-")
	// One that is greater goes instead of two that are not enough, and then none of the lesser with it that need not.
	checkVictims(t, manyFleet(room(10), append(ranked(1, 1, 2), ranked(5, 3)...)...), "0 1 2")
	checkVictims(t, manyFleet(room(8), append(ranked(1, 1, 2), ranked(5, 3)...)...), "2")
	checkVictims(t, manyFleet(room(9), append(ranked(1, 1, 2), ranked(5, 3)...)...), "0 2")
	// Many of less Rank are less harm than one of more.
	checkVictims(t, manyFleet(room(4), append(ranked(4, 2), ranked(1, 1, 1, 1, 1, 1, 1)...)...), "1 2 3 4")
	// Of one rank, fewer are less; and among those the names decide.
	checkVictims(t, manyFleet(room(2), append(ranked(1, 1, 1, 1), ranked(3, 1, 1)...)...), "0")
	checkVictims(t, manyFleet(room(3), append(ranked(1, 1, 1, 1), ranked(3, 1, 1)...)...), "3")
	checkVictims(t, manyFleet(room(5), append(ranked(1, 1, 1, 1), ranked(3, 1, 1)...)...), "0 3")
	checkVictims(t, manyFleet(room(4), append(ranked(1, 1, 1, 1), ranked(3, 1, 1)...)...), "3")
	checkVictims(t, manyFleet(room(3), ranked(2, 4, 4, 4, 4, 4)...), "0 1")
	checkVictims(t, manyFleet(room(3), ranked(2, 5, 4, 4, 5, 4)...), "1 2")
	checkVictims(t, manyFleet(room(5), ranked(2, 5, 4, 5, 4, 5)...), "0 1 3")
	checkVictims(t, manyFleet(room(5), ranked(2, 5, 5, 4, 5, 4)...), "0 2 4")
}

// Only those of less Rank go.
func TestPilotVictimsRank(t *testing.T) {
	checkVictims(t, manyFleet(impl.PilotCopy{Room: 6}, ranked(5, 9)...), "-")
	checkVictims(t, manyFleet(impl.PilotCopy{Room: 6}, ranked(5, 8)...), "0")
	checkVictims(t, manyFleet(impl.PilotCopy{Room: 6}, ranked(5, 10)...), "-")
	checkVictims(t, manyFleet(impl.PilotCopy{Room: 6}, ranked(5, 9, 8)...), "-")
	checkVictims(t, manyFleet(impl.PilotCopy{Room: 5}, ranked(5, 9, 8)...), "1")
	f := manyFleet(impl.PilotCopy{Room: 6}, ranked(5, 0)...)
	checkVictims(t, f, "0")
	f.Copies[0].Rank = 0
	checkVictims(t, f, "-")
	f.Copies[0].Rank = 1
	checkVictims(t, f, "0")
	f.Copies[0].Rank, f.Copies[1].Rank = 100, 99
	checkVictims(t, f, "0")
}

// What bars the copy besides Room.
func TestPilotVictimsReasons(t *testing.T) {
	own := func(rank, apart int) impl.PilotCopy {
		return impl.PilotCopy{Service: "db", At: "a1", Rank: rank, Apart: apart}
	}
	elsewhere := func(c impl.PilotCopy, at string) impl.PilotCopy {
		c.At = at
		return c
	}
	apart := impl.PilotCopy{Apart: impl.PilotApartZone}
	checkVictims(t, manyFleet(impl.PilotCopy{Hold: 6}, impl.PilotCopy{At: "a1", Hold: 3, Rank: 2}, impl.PilotCopy{At: "a1", Hold: 3, Rank: 1}), "1")
	checkVictims(t, manyFleet(impl.PilotCopy{}, ranked(1, 3, 4, 2, 5, 6, 3, 4, 5, 6, 7)...), "2")
	checkVictims(t, manyFleet(impl.PilotCopy{}, ranked(1, 3, 4, 2, 5, 6, 3, 4, 5, 6)...), "")
	// Those of its own that it may not stand with go, all of them.
	checkVictims(t, manyFleet(apart, own(1, 0), impl.PilotCopy{At: "a1"}, own(2, 0)), "0 2")
	checkVictims(t, manyFleet(impl.PilotCopy{}, own(1, 1), own(3, 2), own(2, 0)), "0 1")
	checkVictims(t, manyFleet(apart, own(1, 0), own(9, 0)), "-")
	// Those that stand elsewhere do not go.
	checkVictims(t, manyFleet(apart, elsewhere(own(1, 0), "a2")), "-")
	checkVictims(t, manyFleet(apart, elsewhere(own(1, 0), "b1")), "")
	// Where nobody helps.
	full := ranked(10, 1)
	for _, c := range []impl.PilotCopy{{Room: 1, Fixed: "a2"}, {Room: 1, Select: "!ssd"}, {Room: 1, Near: "none"}, {Room: 11}, {Hold: 11}} {
		checkVictims(t, manyFleet(c, full...), "-")
	}
	f := manyFleet(impl.PilotCopy{Room: 1}, full...)
	checkVictims(t, f, "0")
	f.Berths[0].Closed = true
	checkVictims(t, f, "-")
	f.Copies = f.Copies[:1]
	checkVictims(t, f, "-")
}

// The copy is to be near to what stands there: not all of it can go.
func TestPilotVictimsNear(t *testing.T) {
	near := impl.PilotCopy{Room: 5, Near: "web"}
	checkVictims(t, manyFleet(near, ranked(10, 1)...), "-")
	checkVictims(t, manyFleet(near, ranked(5, 1, 2)...), "0")
	checkVictims(t, manyFleet(near, ranked(3, 1, 1, 1)...), "0 1")
	near.Room = 8
	checkVictims(t, manyFleet(near, ranked(3, 1, 1, 1)...), "-")
	other := impl.PilotCopy{At: "a2"}
	checkVictims(t, manyFleet(near, append(ranked(3, 1, 1, 1), other)...), "0 1 2")
	other.At = "b1"
	checkVictims(t, manyFleet(near, append(ranked(3, 1, 1, 1), other)...), "-")
	// Near to its own: it may be the only one, if there is none elsewhere.
	near.Near = "db"
	all := ranked(10, 1)
	all[0].Service = "db"
	checkVictims(t, manyFleet(near, all...), "0")
	other.Service = "db"
	checkVictims(t, manyFleet(near, append(all, other)...), "-")
	// One of less Rank would be enough, but it is the one to be near to.
	pair := append(ranked(5, 1), ranked(5, 2)...)
	pair[1].Service = "db"
	f := manyFleet(impl.PilotCopy{Room: 5, Near: "web"}, pair...)
	checkVictims(t, f, "1")
	f.Copies[0].Near = "db"
	f.Copies[1].Service, f.Copies[2].Service = "db", "web"
	checkVictims(t, f, "0")
}

// What may not go, for its service, is left out.
func TestPilotVictimsSpare(t *testing.T) {
	list := append(ranked(2, 1, 1, 2, 2), impl.PilotCopy{})
	f := manyFleet(impl.PilotCopy{Room: 6}, list...) // 2 are left, and o04 waits
	f.Copies[3].Service, f.Copies[4].Service = "db", "db"
	for _, c := range []struct {
		db, web int
		want    string
	}{
		{9, 9, "0 1"}, {9, 3, "0 1"}, {9, 2, "0 2"}, {9, 1, "2 3"}, {9, 0, "2 3"}, {3, 1, "2 3"}, {2, 1, "-"}, {2, 2, "0 2"}, {1, 3, "0 1"}, {1, 2, "-"}, {0, 0, "-"},
	} {
		f.Services[0].Spare, f.Services[1].Spare = c.db, c.web
		checkVictims(t, f, c.want)
	}
	// Where none need go, nothing is to spare.
	f.Copies[0].Room, f.Services[0].Spare, f.Services[1].Spare = 2, 0, 0
	checkVictims(t, f, "")
}

func TestPilotVictimsNobody(t *testing.T) {
	f := manyFleet(impl.PilotCopy{Room: 6}, ranked(5, 1)...)
	f.Copies = append(f.Copies, impl.PilotCopy{Name: "o09", Service: "web", At: "b1", Rank: 9})
	for _, c := range [][2]string{
		{"o09", "a1"}, {"o09", "b1"}, {"o00", "a1"}, {"none", "a1"}, {"", "a1"}, {"me", "none"}, {"me", ""}, {"", ""}, {"a1", "me"}, {"me ", "a1"}, {"ME", "a1"},
	} {
		if gone, ok := impl.PilotVictims(f, c[0], c[1]); ok || len(gone) != 0 {
			t.Errorf("PilotVictims of %q are %q, %v", c, gone, ok)
		}
	}
}

// checkPromise6 holds promise 6 by what the program itself says, and the second reading, of a copy of a valid fleet that waits.
func checkPromise6(t *testing.T, f impl.PilotFleet, c impl.PilotCopy, b impl.PilotBerth) (gone []string, ok bool, equal int) {
	t.Helper()
	gone, ok = impl.PilotVictims(f, c.Name, b.Name)
	want, wantOk, equal := modelVictims(f, c, b)
	if ok != wantOk || !slices.Equal(gone, want) {
		t.Fatalf("PilotVictims(%+v, %q, %q) is %q, %v, not %q, %v", f, c.Name, b.Name, gone, ok, want, wantOk)
	}
	serves := func(gone []string) bool {
		return impl.PilotMayGo(f, gone) && impl.PilotFits(withGone(f, gone), c.Name, b.Name) == 0
	}
	if ok && !serves(gone) {
		t.Fatalf("PilotVictims(%+v, %q, %q) is %q, with which it does not fit", f, c.Name, b.Name, gone)
	}
	for _, other := range listsOn(f, b.Name, c.Rank) {
		if (!ok || impl.PilotLess(impl.PilotHarm(f, other), impl.PilotHarm(f, gone))) && serves(other) {
			t.Fatalf("PilotVictims(%+v, %q, %q) is %q, %v, and there is %q", f, c.Name, b.Name, gone, ok, other)
		}
	}
	return gone, ok, equal
}

func TestPromise6Random(t *testing.T) {
	t.Parallel()
	r := rand.New(rand.NewSource(21))
	sizes, none, equals := map[int]int{}, 0, 0
	for range 1200 {
		f := tightFleet(r)
		for _, c := range modelQueue(f) {
			for _, b := range f.Berths {
				gone, ok, equal := checkPromise6(t, f, c, b)
				if !ok {
					none++
					continue
				}
				sizes[len(gone)]++
				if equal > 1 {
					equals++
				}
			}
		}
	}
	if sizes[0] < 200 || sizes[1] < 200 || sizes[2] < 100 || sizes[3] < 20 || none < 500 || equals < 50 {
		t.Errorf("of so many: %v, none %d times, %d times several: the fleets tell too little", sizes, none, equals)
	}
}

// One berth with up to ten copies of few ranks, in great numbers.
func TestPromise6Crowded(t *testing.T) {
	t.Parallel()
	r := rand.New(rand.NewSource(22))
	for range 25 {
		var list []impl.PilotCopy
		for range 7 + r.Intn(4) {
			list = append(list, impl.PilotCopy{At: "a1", Rank: r.Intn(4), Room: r.Intn(3), Hold: r.Intn(2), Service: pickOf(r, "db", "web"), Apart: pickOf(r, 0, 0, 0, 0, 0, 0, 1)})
		}
		f := manyFleet(impl.PilotCopy{Room: r.Intn(9), Hold: r.Intn(9), Near: pickOf(r, "", "", "web")}, list...)
		f.Berths[0].Room, _ = modelUsed(f, "a1")
		f.Services[0].Spare, f.Services[1].Spare = 1+r.Intn(9), r.Intn(9)
		checkPromise6(t, f, f.Copies[0], f.Berths[0])
	}
}

// checkPromise7 holds promise 7, and the second reading, of a list.
func checkPromise7(t *testing.T, f impl.PilotFleet, gone []string) bool {
	t.Helper()
	may := impl.PilotMayGo(f, gone)
	if want := modelMayGo(f, gone); may != want {
		t.Fatalf("PilotMayGo(%+v, %q) is %v", f, gone, may)
	}
	if !may {
		return false
	}
	behind := withGone(f, gone)
	for _, s := range f.Services {
		if down := modelDown(behind, s.Name); down > s.Spare && down > modelDown(f, s.Name) {
			t.Fatalf("PilotMayGo(%+v, %q): of %q are %d down", f, gone, s.Name, down)
		}
	}
	if got, want := impl.PilotHarm(f, gone), modelHarm(f, gone); !slices.Equal(got, want) {
		t.Fatalf("PilotHarm(%+v, %q) is %v, not %v", f, gone, got, want)
	}
	return true
}

func TestPromise7Random(t *testing.T) {
	t.Parallel()
	r := rand.New(rand.NewSource(23))
	may, not := 0, 0
	for range 4000 {
		f := tightFleet(r)
		for range 4 {
			var gone []string
			for _, c := range f.Copies {
				if r.Intn(5) == 0 || c.At != "" && r.Intn(3) == 0 {
					gone = append(gone, c.Name)
				}
			}
			if len(gone) > 1 && r.Intn(9) == 0 {
				i, j := r.Intn(len(gone)), r.Intn(len(gone))
				gone[i], gone[j] = gone[j], gone[i]
			}
			if checkPromise7(t, f, gone) {
				if len(gone) > 0 {
					may++
				}
			} else {
				not++
			}
		}
	}
	if may < 500 || not < 500 {
		t.Errorf("%d may go, %d may not: the fleets tell too little", may, not)
	}
}

func TestPilotHarmNotValid(t *testing.T) {
	r := rand.New(rand.NewSource(24))
	met := 0
	for range 1500 {
		f := tightFleet(r)
		breaks(r, &f)
		if modelFleetFault(f) == "" {
			continue
		}
		met++
		for _, c := range f.Copies {
			if impl.PilotMayGo(f, []string{c.Name}) || len(impl.PilotHarm(f, []string{c.Name})) != 0 {
				t.Fatalf("%q goes in %+v", c.Name, f)
			}
			for _, b := range f.Berths {
				if gone, ok := impl.PilotVictims(f, c.Name, b.Name); ok || len(gone) != 0 {
					t.Fatalf("PilotVictims(%+v, %q, %q) are %q", f, c.Name, b.Name, gone)
				}
			}
		}
		if impl.PilotMayGo(f, nil) || len(impl.PilotHarm(f, nil)) != 0 {
			t.Fatalf("nobody may go in %+v", f)
		}
	}
	if met < 300 {
		t.Errorf("%d fleets were not valid", met)
	}
}

func TestPilotHarmMemory(t *testing.T) {
	r := rand.New(rand.NewSource(25))
	for range 300 {
		f := spared(tightFleet(r))
		var gone []string
		for _, c := range f.Copies {
			gone = append(gone, c.Name)
		}
		gone = append(gone, "behind")[:len(gone)]
		harm := impl.PilotHarm(f, gone)
		checkOwnMemory(t, []any{f, gone}, []any{harm})
		for _, c := range f.Copies {
			for _, b := range f.Berths {
				victims, _ := impl.PilotVictims(f, c.Name, b.Name)
				checkOwnMemory(t, []any{f}, []any{victims})
			}
		}
		checkUnchanged(t, f, func(f impl.PilotFleet) {
			for i, c := range f.Copies {
				impl.PilotMayGo(f, gone[:i])
				impl.PilotHarm(f, gone[:i])
				for _, b := range f.Berths {
					impl.PilotVictims(f, c.Name, b.Name)
				}
			}
		})
		for i, c := range f.Copies {
			if gone[i] != c.Name || gone[:len(gone)+1][len(gone)] != "behind" {
				t.Fatalf("gone is %q now", gone)
			}
		}
	}
}

// A fleet that many ask about at once: it is not changed for as long as a call lasts, either.
func TestPilotVictimsAtOnce(t *testing.T) {
	f := greatFleet(3, 10, 30)
	want := map[string]string{}
	for _, b := range f.Berths {
		for _, c := range modelQueue(f) {
			gone, ok := impl.PilotVictims(f, c.Name, b.Name)
			want[c.Name+b.Name] = fmt.Sprint(gone, ok)
		}
	}
	step, _ := impl.PilotNext(f)
	var all sync.WaitGroup
	for range 8 {
		all.Go(func() {
			for _, b := range f.Berths {
				for _, c := range modelQueue(f) {
					gone, ok := impl.PilotVictims(f, c.Name, b.Name)
					if got := fmt.Sprint(gone, ok); got != want[c.Name+b.Name] {
						t.Errorf("PilotVictims(%q, %q) is %s", c.Name, b.Name, got)
					}
				}
			}
			if next, _ := impl.PilotNext(f); fmt.Sprint(next) != fmt.Sprint(step) {
				t.Errorf("PilotNext is %+v", next)
			}
		})
	}
	all.Wait()
}

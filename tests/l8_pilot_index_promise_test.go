package tests

import (
	"math/rand"
	"testing"

	"loop.example/wharffleet/impl"
)

// checkAsks holds the second half of promise 10: PilotAsk of every copy that waits is PilotChoose. It tells how many find a berth.
func checkAsks(t *testing.T, x impl.PilotIndex, f impl.PilotFleet) int {
	t.Helper()
	found := 0
	for _, c := range f.Copies {
		if c.At != "" {
			continue
		}
		got, want := impl.PilotAsk(x, c), impl.PilotChoose(f, c.Name)
		if got != want {
			t.Fatalf("of %+v PilotAsk(%+v) is %q, not %q", f, c, got, want)
		}
		if got != "" {
			found++
		}
	}
	return found
}

// Long rows of events, the index followed from the first to the last.
func TestPromise10Random(t *testing.T) {
	t.Parallel()
	r := rand.New(rand.NewSource(41))
	kinds, codes, found := map[int]int{}, map[int]int{}, 0
	for range 150 {
		f := roomyFleet(r)
		x := impl.PilotIndexOf(f)
		for range 60 {
			e := randomEvent(r, f)
			behind, code := impl.PilotHappen(f, e)
			if want, wantCode := modelHappen(f, e); code != wantCode || !sameFleet(behind, want) {
				t.Fatalf("PilotHappen(%+v, %+v) is %+v, %d, not %+v, %d", f, e, behind, code, want, wantCode)
			}
			codes[code]++
			x = checkFollow(t, x, f, e)
			if code == 0 {
				kinds[e.Kind]++
				f = behind
			}
			found += checkAsks(t, x, f)
		}
	}
	for kind := 1; kind <= 5; kind++ {
		if kinds[kind] < 300 {
			t.Errorf("kind %d happened %d times: the events tell too little", kind, kinds[kind])
		}
	}
	if codes[2] < 300 || codes[3] < 300 || codes[4] < 50 || found < 1000 {
		t.Errorf("codes %v, %d found a berth: the events tell too little", codes, found)
	}
}

// A copy more that is in no fleet is asked for as if it were in it.
func TestPromise10OneMore(t *testing.T) {
	t.Parallel()
	r := rand.New(rand.NewSource(42))
	found, none := 0, 0
	for range 2000 {
		f := roomyFleet(r)
		x := impl.PilotIndexOf(f)
		c := randomCopy(r, f, "new")
		with, code := impl.PilotHappen(f, setCopy(c))
		if code != 0 {
			t.Fatalf("%+v has code %d", c, code)
		}
		want := impl.PilotChoose(with, "new")
		if got := impl.PilotAsk(x, c); got != want {
			t.Fatalf("PilotAsk(%+v, %+v) is %q, not %q", x, c, got, want)
		}
		if c.At = pickOf(r, "b0", "b1", "none"); impl.PilotAsk(x, c) != want {
			t.Fatalf("PilotAsk(%+v, %+v) is %q, not %q", x, c, impl.PilotAsk(x, c), want)
		}
		if want == "" {
			none++
		} else {
			found++
		}
		checkAsks(t, x, f)
	}
	if found < 400 || none < 400 {
		t.Errorf("%d found a berth, %d did not: the fleets tell too little", found, none)
	}
}

// bothOrders tells whether all codes were 0 in both orders, and holds promise 11 if they were.
func bothOrders(t *testing.T, f impl.PilotFleet, a, b impl.PilotEvent) bool {
	t.Helper()
	var ends []impl.PilotFleet
	for _, order := range [][2]impl.PilotEvent{{a, b}, {b, a}} {
		first, firstCode := impl.PilotHappen(f, order[0])
		end, endCode := impl.PilotHappen(first, order[1])
		if firstCode != 0 || endCode != 0 {
			return false
		}
		ends = append(ends, end)
	}
	if !sameFleet(ends[0], ends[1]) || !sameIndex(impl.PilotIndexOf(ends[0]), impl.PilotIndexOf(ends[1])) {
		t.Fatalf("%+v and %+v lead %+v to %+v, and in the other order to %+v", a, b, f, ends[0], ends[1])
	}
	return true
}

func TestPromise11(t *testing.T) {
	f := eventFleet()
	fresh := func(name, at string) impl.PilotEvent {
		return setCopy(impl.PilotCopy{Name: name, Service: "db", At: at})
	}
	for i, c := range []struct {
		a, b impl.PilotEvent
		both bool
	}{
		{fresh("x", ""), fresh("y", "a2"), true}, {fresh("x", ""), fresh("a", "a2"), true}, {fresh("a", ""), fresh("b", ""), true}, {fresh("aa", "b1"), fresh("ab", "b1"), true},
		{fresh("x", "a1"), dropCopy("a"), true}, {fresh("b", ""), dropCopy("a"), true}, {fresh("b", ""), move("a", "a2"), true}, {fresh("x", ""), move("a", ""), true},
		{dropCopy("a"), dropCopy("b"), true}, {dropCopy("d"), move("a", "a2"), true}, {move("a", "a2"), move("b", "a2"), true}, {move("a", ""), move("b", "a1"), true},
		// One order has another code: nothing is promised.
		{move("d", "a1"), move("a", ""), false}, {dropCopy("a"), move("d", "a1"), false}, {fresh("c", ""), move("a", "b1"), false},
	} {
		if got := bothOrders(t, f, c.a, c.b); got != c.both {
			t.Errorf("case %d: both orders are %v", i, got)
		}
		if got := bothOrders(t, f, c.b, c.a); got != c.both {
			t.Errorf("case %d, the other way: both orders are %v", i, got)
		}
	}
}

// copyEvent is one of the three kinds on a copy, and that copy's name.
func copyEvent(r *rand.Rand, f impl.PilotFleet) (impl.PilotEvent, string) {
	for {
		e := randomEvent(r, f)
		switch e.Kind {
		case impl.PilotSetCopy:
			return e, e.Copy.Name
		case impl.PilotDropCopy, impl.PilotMove:
			return e, e.Name
		}
	}
}

func TestPromise11Random(t *testing.T) {
	t.Parallel()
	r := rand.New(rand.NewSource(43))
	met := map[[2]int]int{}
	for range 12000 {
		f := roomyFleet(r)
		a, nameA := copyEvent(r, f)
		b, nameB := copyEvent(r, f)
		if nameA != nameB && bothOrders(t, f, a, b) {
			met[[2]int{min(a.Kind, b.Kind), max(a.Kind, b.Kind)}]++
		}
	}
	for _, kinds := range [][2]int{{3, 3}, {3, 4}, {3, 5}, {4, 4}, {4, 5}, {5, 5}} {
		if met[kinds] < 100 {
			t.Errorf("kinds %v happened %d times: the events tell too little", kinds, met[kinds])
		}
	}
}

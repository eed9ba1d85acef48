package tests

import (
	"fmt"
	"math"
	"math/rand"
	"slices"
	"strings"
	"testing"

	"loop.example/wharffleet/impl"
)

// Of chapter 30 there is what makes a fleet with copies that are placed: FleetNew, and FleetDo of FleetWish, FleetDrain, FleetStewards and FleetLand.

func TestFleetNew(t *testing.T) {
	berths := []impl.PilotBerth{
		{Name: "a", Zone: "east", Marks: []string{"color=red", "ssd"}, Room: 7, Hold: 8},
		{Name: "b", Zone: "west", Room: 1000},
	}
	w := impl.FleetNew(berths)
	want := impl.FleetWorld{
		Stew:   impl.StewBook{Berths: []impl.StewBerth{{Name: "a"}, {Name: "b"}}},
		Berths: berths,
		Mates:  impl.MateNewWorld([]string{"a", "b"}),
		Heard:  []impl.FleetHeard{{Berth: "a"}, {Berth: "b"}},
	}
	if !sameWharf(w, want) {
		t.Errorf("%+v, not %+v", w, want)
	}
	checkWharf(t, "a new one", w, "")
	checkOwnMemory(t, []any{berths}, []any{w})
	checkOwnTexts(t, []any{berths}, []any{w})
	list := func(names ...string) []impl.PilotBerth { return emptyWharf(names...).Berths }
	for _, names := range [][]string{{"a"}, {"a", "b", "c", "d"}, {"-", "0", "a", "a-"}, {strings.Repeat("z", 20)}} {
		checkWharf(t, fmt.Sprint(names), impl.FleetNew(list(names...)), "")
	}
	closed, wide := list("a", "b"), list("a", "b")
	closed[1].Closed, wide[1].Room = true, 1001
	for what, berths := range map[string][]impl.PilotBerth{
		"none": nil, "one more": list("a", "b", "c", "d", "e"), "far too many": slices.Repeat(list("a"), 1000000), "closed": closed, "too wide": wide,
		"another order": list("b", "a"), "twice": list("a", "a"), "no name for the stewards": list("x_y"), "no name": list(""), "too long": list(strings.Repeat("z", 21)), "no zone": {{Name: "a"}},
	} {
		if w := impl.FleetNew(berths); !sameWharf(w, impl.FleetWorld{}) {
			t.Errorf("%s: %+v", what, w)
		}
	}
}

func needsWish(name string, needs impl.FleetKind) impl.FleetEvent {
	return impl.FleetEvent{Kind: impl.FleetWish, Wish: impl.StewService{Name: name, Image: 4, Want: 2, Down: 1}, Needs: needs}
}

func TestFleetDoWish(t *testing.T) {
	w := impl.FleetNew(emptyWharf("a", "b").Berths)
	for i, name := range []string{"web", "db", "xl", "eightlet"} {
		needs := impl.FleetKind{Service: "any", Rank: i, Volume: true, Pull: 2}
		next := impl.FleetDo(w, needsWish(name, needs))
		needs.Service = name
		if !slices.Contains(next.Kinds, needs) || len(next.Kinds) != i+1 || next.Stew.Now != i+1 {
			t.Errorf("%s: %+v", name, next.Kinds)
		}
		book, code := impl.StewSea(w.Stew, impl.StewEvent{Kind: impl.StewWish, Service: needsWish(name, needs).Wish})
		if code != 0 || !sameBook(next.Stew, book) {
			t.Errorf("%s: %+v, not %+v", name, next.Stew, book)
		}
		checkWharf(t, name, next, "")
		w = next
	}
	// A service that is there keeps its kind, whatever is needed now.
	again := needsWish("web", impl.FleetKind{Rank: 9999})
	again.Wish.Want = 5
	next := impl.FleetDo(w, again)
	if !slices.Equal(next.Kinds, w.Kinds) || next.Stew.Services[2].Want != 5 || next.Stew.Now != 5 {
		t.Errorf("%+v", next)
	}
	// What would not be valid does not happen.
	needs := func(change func(k *impl.FleetKind)) impl.FleetEvent {
		var k impl.FleetKind
		change(&k)
		return needsWish("new", k)
	}
	for what, e := range map[string]impl.FleetEvent{
		"a name that is too long": needsWish("ninelette", impl.FleetKind{}),
		"no name":                 needsWish("", impl.FleetKind{}),
		"no name of chapter 18":   needsWish("x_y", impl.FleetKind{}),
		"rank":                    needs(func(k *impl.FleetKind) { k.Rank = 101 }),
		"room":                    needs(func(k *impl.FleetKind) { k.Room = -1 }),
		"select":                  needs(func(k *impl.FleetKind) { k.Select = "((" }),
		"grace":                   needs(func(k *impl.FleetKind) { k.Grace = 101 }),
		"no spare":                {Kind: impl.FleetWish, Wish: impl.StewService{Name: "new", Image: 4}},
		"of one that is there":    {Kind: impl.FleetWish, Wish: impl.StewService{Name: "web"}},
	} {
		if got := impl.FleetDo(w, e); !sameWharf(got, w) {
			t.Errorf("%s: it happens: %+v", what, got)
		}
	}
	w.Stew.Now = 1000000
	if got := impl.FleetDo(w, needsWish("new", impl.FleetKind{})); !sameWharf(got, w) {
		t.Errorf("at the end of versions: %+v", got)
	}
}

func TestFleetDoDrain(t *testing.T) {
	w := withService(threeBerths(), webKind(), "1@a 2")
	for at := range 3 {
		for _, b := range []int{0, 1, -1, math.MinInt} {
			for _, was := range []bool{false, true} {
				w.Stew.Berths[at].Drain = was
				next := impl.FleetDo(w, impl.FleetEvent{Kind: impl.FleetDrain, A: at, B: b})
				want := plainWharf(w)
				want.Stew.Now, want.Stew.Berths[at].Drain = 6, b != 0
				if !sameWharf(next, want) {
					t.Errorf("%d, %d: %+v, not %+v", at, b, next, want)
				}
			}
		}
	}
	for _, at := range []int{-1, 3, math.MinInt, math.MaxInt} {
		if next := impl.FleetDo(w, impl.FleetEvent{Kind: impl.FleetDrain, A: at, B: 1}); !sameWharf(next, w) {
			t.Errorf("%d: %+v", at, next)
		}
	}
	w.Stew.Now = 1000000
	if next := impl.FleetDo(w, impl.FleetEvent{Kind: impl.FleetDrain, B: 1}); !sameWharf(next, w) {
		t.Errorf("at the end of versions: %+v", next)
	}
}

// modelStewarded is a fleet behind what a steward asks for.
func modelStewarded(w impl.FleetWorld, kind int) impl.FleetWorld {
	w = plainWharf(w)
	for _, a := range impl.StewAsk(kind, w.Stew) {
		w.Stew, _ = impl.StewApply(w.Stew, a)
	}
	return modelTidy(w)
}

func TestFleetDoStewards(t *testing.T) {
	t.Parallel()
	do := func(w impl.FleetWorld, kind int) impl.FleetWorld {
		return impl.FleetDo(w, impl.FleetEvent{Kind: impl.FleetStewards, A: kind})
	}
	// A copy that has failed is Ending, and has no slot any more; the next one may have it.
	w := withService(emptyWharf("a", "b"), webKind(), "1@a:0 2@b:1 3@a:2")
	w.Stew.Copies[1].State = impl.StewFailed
	w = do(w, impl.StewMender)
	if !slices.Equal(w.Slots, []impl.FleetSlot{slotOf("web", 1, 0), slotOf("web", 3, 2)}) || !w.Stew.Copies[1].Ending {
		t.Errorf("%+v", w)
	}
	w = impl.FleetPlace(do(w, impl.StewCounter))
	if got := placedIn(w); got != "web-1@a:0/3/v1 web-3@a:2/3/v1 web-4@b:1/2/v8" {
		t.Error(got)
	}
	// A service that is gone goes with its kind.
	w = withService(withService(emptyWharf("a"), impl.FleetKind{Service: "db", Rank: 3}, "1@a"), webKind(), "")
	w.Stew.Services[1].Gone = true
	w = do(w, impl.StewSweeper)
	if len(w.Kinds) != 1 || w.Kinds[0] != (impl.FleetKind{Service: "db", Rank: 3}) || len(w.Slots) != 1 {
		t.Errorf("%+v", w)
	}
	for _, kind := range []int{0, 7, -1, math.MinInt, math.MaxInt} {
		if next := do(fullWharf(), kind); !sameWharf(next, fullWharf()) {
			t.Errorf("%d: %+v", kind, next)
		}
	}
	r := rand.New(rand.NewSource(301))
	changed := map[int]int{}
	for i := range 600 {
		w, kind := randomWharf(r), 1+i%6
		if kind == impl.StewDrainer { // it waits until no copy is old
			for j := range w.Stew.Copies {
				w.Stew.Copies[j].Image = 1
			}
			for j := range w.Stew.Services {
				w.Stew.Services[j].Image, w.Stew.Services[j].Want = 1, r.Intn(3)
			}
			w.Stew.Berths[0].Drain = true
		}
		next := do(w, kind)
		if !sameWharf(next, modelStewarded(w, kind)) || !impl.FleetValid(next) {
			t.Fatalf("%d of %+v: %+v", kind, w, next)
		}
		if next.Stew.Now > w.Stew.Now {
			changed[kind]++
		}
	}
	for kind := 1; kind <= 6; kind++ {
		if changed[kind] < 10 {
			t.Errorf("the fleets tell too little: %v", changed)
		}
	}
}

// The land gives up first, then places, then tells: so what is given up makes room, and its slot is free again.
func TestFleetDoLand(t *testing.T) {
	t.Parallel()
	land := impl.FleetEvent{Kind: impl.FleetLand}
	w := silentSince(withPlace(withPlace(webAt("1@a:0 2@b:1 3 4e"), "a", 3, webWant(1, 0)), "b", 4, webWant(2, 1)), 100, 59, 60, 60)
	next := impl.FleetDo(w, land)
	if got := placedIn(next) + "; " + toldIn(next); got != "web-2@b:1/3/v1 web-3@c:0/2/v7; a 4; b 4 web-2=web-1; c 1 web-3=web-0" || next.Stew.Now != 7 {
		t.Errorf("%s at %d", got, next.Stew.Now)
	}
	if again := impl.FleetDo(next, land); !sameWharf(again, next) {
		t.Errorf("the land finds something more: %s", placedIn(again))
	}
	// What it is told beside its Kind counts for nothing.
	if got := impl.FleetDo(w, impl.FleetEvent{Kind: impl.FleetLand, A: math.MinInt, B: math.MaxInt, Rates: []int{1, 9}, Wish: impl.StewService{Name: "web", Want: 9}, Needs: impl.FleetKind{Rank: -1}}); !sameWharf(got, next) {
		t.Errorf("%+v", got)
	}
	// One version is left, for what is given up; then nothing can be placed, but all is told.
	w.Stew.Now = 999999
	next = impl.FleetDo(w, land)
	if got := copiesIn(next) + "; " + toldIn(next); got != "web-2@b/3/v1 web-3/1/v1; a 4; b 4 web-2=web-1" || next.Stew.Now != 1000000 {
		t.Errorf("%s at %d", got, next.Stew.Now)
	}
	// None is left: what is told is what stands.
	w.Stew.Now, w.Mates.Land.Places = 1000000, nil
	next = impl.FleetDo(w, land)
	if got := copiesIn(next) + "; " + toldIn(next); got != "web-1@a/3/v1 web-2@b/3/v1 web-3/1/v1 web-4e/1/v1; a 1 web-1=web-0; b 1 web-2=web-1" {
		t.Error(got)
	}
	r := rand.New(rand.NewSource(302))
	met := map[string]int{}
	note := func(what string) { met[what]++ }
	for i := range 1500 {
		w := randomWharf(r)
		if i%20 == 0 {
			breakWharf(r, &w)
		}
		next, want := impl.FleetDo(w, land), modelTold(modelPlaced(modelSwept(w, note), note), note)
		if !sameWharf(next, want) || impl.FleetValid(next) != impl.FleetValid(w) {
			t.Fatalf("FleetLand of %+v\nis %+v\nnot %+v", w, next, want)
		}
	}
	for _, what := range []string{"not valid", "gone 0", "gone 1", "gone 3", "placed 1", "placed 3", "goes: code 0", "comes: code 0", "comes: code 3"} {
		if met[what] < 20 {
			t.Errorf("the fleets tell too little of %q: %v", what, met)
		}
	}
}

func TestFleetDoMemory(t *testing.T) {
	broken := fullWharf()
	broken.Heard[0].Time = -1
	for _, e := range []impl.FleetEvent{needsWish("web", webKind()), needsWish("x_y", webKind()), {Kind: impl.FleetDrain, A: 1}, {Kind: impl.FleetDrain, A: 9}, {Kind: impl.FleetStewards, A: 1}, {Kind: impl.FleetStewards, A: 5}, {Kind: impl.FleetStewards}, {Kind: impl.FleetLand}} {
		e.Wish.Name, e.Needs.Select = strings.Clone(e.Wish.Name), strings.Clone("ssd")
		w := wharfWithRoom(fullWharf())
		before := wholeWharf(w)
		next := impl.FleetDo(w, e)
		checkWharf(t, "behind an event", next, "")
		checkOwnMemory(t, []any{w, e}, []any{next})
		checkOwnTexts(t, []any{w, e}, []any{next})
		if !slices.Equal(wholeWharf(w).Kinds, before.Kinds) || !slices.Equal(wholeWharf(w).Slots, before.Slots) || !sameWharf(w, fullWharf()) || !sameWharf(wholeWharf(w), before) {
			t.Errorf("the fleet was %+v, and is %+v", before, w)
		}
		if got := impl.FleetDo(broken, e); !sameWharf(got, impl.FleetWorld{}) {
			t.Errorf("%+v of none: %+v", e, got)
		}
	}
}

package tests

import (
	"fmt"
	"math"
	"math/rand"
	"reflect"
	"slices"
	"strings"
	"sync"
	"testing"

	"loop.example/wharffleet/impl"
)

// greatWharf has the most of all, each with the greatest names and numbers: what the pilot is shown of it is no fleet.
func greatWharf() impl.FleetWorld {
	w := impl.FleetWorld{Stew: greatBook(8, 200, 4), Mates: greatWorld()}
	for i := range w.Mates.Mates {
		name := fmt.Sprintf("b%d%s", i, strings.Repeat("z", 18))
		w.Mates.Mates[i].Name, w.Mates.Land.Places[i].Berth, w.Stew.Berths[i].Name = name, name, name
		w.Heard = append(w.Heard, impl.FleetHeard{Berth: name, Time: w.Mates.Land.Time})
		w.Berths = append(w.Berths, impl.PilotBerth{Name: name, Zone: name, Marks: strings.Fields("a b c d e f g h i j=zzzzzzzzzzzzzzzzzzzz"), Room: 1000, Hold: 1000})
	}
	for i := range w.Stew.Copies {
		c := &w.Stew.Copies[i]
		c.Service, c.Berth = c.Service[:8], w.Berths[i%4].Name
		w.Slots = append(w.Slots, slotOf(c.Service, c.Number, 99-i%25))
	}
	for i := range w.Stew.Services {
		s := &w.Stew.Services[i]
		s.Name = s.Name[:8]
		w.Kinds = append(w.Kinds, impl.FleetKind{Service: s.Name, Rank: 100, Room: 1000, Hold: 1000, Select: strings.Repeat("!", 20) + strings.Repeat(" ", 179) + "a", Apart: 2, Volume: true, Pull: 100, Start: 100, Grace: 100})
	}
	runs := numbered(20, func(name string) impl.FleetRan { return ranOf(name+strings.Repeat("~", 16), 1000000, 6) })
	for range 60 {
		w.Reports = append(w.Reports, impl.FleetReport{Berth: strings.Repeat("z", 20), Seen: 1000000, Runs: slices.Clone(runs)})
	}
	return w
}

func TestFleetGreat(t *testing.T) {
	w := greatWharf()
	checkWharf(t, "a great one", w, "")
	if len(w.Mates.Mates) != 4 || len(w.Slots) != 200 || len(impl.FleetPilot(w).Copies) != 200 || impl.PilotValid(impl.FleetPilot(w)) {
		t.Errorf("%d mates, %d slots", len(w.Mates.Mates), len(w.Slots))
	}
	if got := impl.FleetWants(w, w.Berths[3].Name); len(got) != 50 {
		t.Errorf("%d are wanted", len(got))
	}
	inGoodTime(t, "a great one, again and again", func() {
		for range 30 {
			impl.FleetTell(impl.FleetPlace(w))
			impl.FleetPilot(w)
		}
	})
	// As many as the pilot can be shown, all of which wait.
	inGoodTime(t, "as many as can be placed", func() {
		w := emptyWharf("a", "b", "c", "d")
		for i := range 6 {
			w = withService(w, impl.FleetKind{Service: fmt.Sprint("s", i), Select: "!none & !(x | y=z)", Volume: true}, strings.Join(numberedWords(10, ""), " "))
		}
		next := impl.FleetTell(impl.FleetPlace(w))
		checkWharf(t, "sixty wait", next, "")
		if len(next.Slots) != 40 {
			t.Errorf("%d are placed", len(next.Slots))
		}
	})
}

// The greatest and the least int, and those next to limits, as every number of a fleet, one by one and all at once.
func TestFleetFarthestNumbers(t *testing.T) {
	t.Parallel()
	numbersIn := func(w *impl.FleetWorld) []reflect.Value {
		return partsOf(reflect.ValueOf(w).Elem(), reflect.Int)
	}
	fresh := func() impl.FleetWorld {
		w := fullWharf()
		w.Mates.Mates[2] = impl.Mate{Name: "c", Up: true, Clock: 9}
		return plainWharf(w)
	}
	whole := fresh()
	if n := len(numbersIn(&whole)); n < 200 {
		t.Fatalf("a fleet has %d numbers", n)
	}
	met := map[bool]int{}
	for _, n := range []int{math.MinInt, -1, 0, 1, 99, 100, 101, 1000000, 1000001, math.MaxInt} {
		for i := range numbersIn(&whole) {
			w := fresh()
			numbersIn(&w)[i].SetInt(int64(n))
			faults := modelWharfFaults(w)
			checkWharf(t, fmt.Sprintf("number %d is %d", i, n), w, strings.Join(faults, ", "))
			met[len(faults) == 0]++
		}
		w := fresh()
		for _, number := range numbersIn(&w) {
			number.SetInt(int64(n))
		}
		checkNoWharf(t, fmt.Sprint("all are ", n), w)
		checkCopyName(t, "web", n, modelNameOfCopy("web", n))
	}
	if met[true] < 300 || met[false] < 300 {
		t.Errorf("the numbers tell too little: %v", met)
	}
}

// wharfWithRoom has room behind the ends of its lists, filled, so that a write there is seen.
func wharfWithRoom(w impl.FleetWorld) impl.FleetWorld {
	w.Stew, w.Mates = bookWithRoom(w.Stew), worldWithRoom(w.Mates)
	w.Kinds = append(slices.Clone(w.Kinds), impl.FleetKind{Service: "behind"}, impl.FleetKind{Rank: 7})[:len(w.Kinds)]
	w.Slots = append(slices.Clone(w.Slots), slotOf("behind", 8, 7), slotOf("farther", 1, 1))[:len(w.Slots)]
	w.Heard = append(slices.Clone(w.Heard), impl.FleetHeard{Berth: "behind", Time: 5}, impl.FleetHeard{Time: 6})[:len(w.Heard)]
	w.Berths = append(slices.Clone(w.Berths), impl.PilotBerth{Name: "behind", Closed: true}, impl.PilotBerth{Zone: "farther"})[:len(w.Berths)]
	for i, b := range w.Berths {
		w.Berths[i].Marks = append(slices.Clone(b.Marks), "behind", "farther")[:len(b.Marks)]
	}
	w.Reports = append(slices.Clone(w.Reports), impl.FleetReport{Berth: "behind"}, impl.FleetReport{Seen: 9})[:len(w.Reports)]
	for i, r := range w.Reports {
		w.Reports[i].Runs = append(slices.Clone(r.Runs), ranOf("behind", 1, 1), ranOf("farther", 2, 2))[:len(r.Runs)]
	}
	return w
}

// wholeWharf is such a fleet with what stands behind its ends.
func wholeWharf(w impl.FleetWorld) impl.FleetWorld {
	berths, reports := len(w.Berths), len(w.Reports)
	w.Stew, w.Mates = wholeBook(w.Stew), wholeWorld(w.Mates)
	w.Kinds, w.Slots, w.Heard = slices.Clone(w.Kinds[:cap(w.Kinds)]), slices.Clone(w.Slots[:cap(w.Slots)]), slices.Clone(w.Heard[:cap(w.Heard)])
	w.Berths, w.Reports = slices.Clone(w.Berths[:cap(w.Berths)]), slices.Clone(w.Reports[:cap(w.Reports)])
	for i, b := range w.Berths[:berths] {
		w.Berths[i].Marks = slices.Clone(b.Marks[:cap(b.Marks)])
	}
	for i, r := range w.Reports[:reports] {
		w.Reports[i].Runs = slices.Clone(r.Runs[:cap(r.Runs)])
	}
	return w
}

// checkWharfMemory holds that a fleet is as it was, also behind its ends, and that what comes back shares no memory with it, and no two lists of it share any.
func checkWharfMemory(t *testing.T, w impl.FleetWorld) {
	t.Helper()
	w = wharfWithRoom(w)
	before, alone := wholeWharf(w), plainWharf(w)
	berth := strings.Clone(w.Berths[0].Name)
	answers := func(w impl.FleetWorld) []any {
		return []any{impl.FleetPilot(w), impl.FleetPlace(w), impl.FleetWants(w, berth), impl.FleetTell(w)}
	}
	valid := impl.FleetValid(w)
	got := answers(w)
	if !reflect.DeepEqual(wholeWharf(w), before) {
		t.Errorf("the fleet was %+v, and is %+v", before, w)
	}
	checkOwnMemory(t, []any{w, berth}, got)
	checkOwnTexts(t, []any{w, berth}, got)
	same := answers(alone)
	if !sameFleet(got[0].(impl.PilotFleet), same[0].(impl.PilotFleet)) || !sameWharf(got[1].(impl.FleetWorld), same[1].(impl.FleetWorld)) || !slices.Equal(got[2].([]impl.MateWant), same[2].([]impl.MateWant)) || !sameWharf(got[3].(impl.FleetWorld), same[3].(impl.FleetWorld)) || impl.FleetValid(alone) != valid {
		t.Errorf("what stands behind is asked: %+v", w)
	}
}

func TestFleetMemory(t *testing.T) {
	t.Parallel()
	for _, w := range []impl.FleetWorld{emptyWharf("a"), threeBerths(), fullWharf(), withService(emptyWharf("a", "b"), webKind(), "1 2@a 3 4@b 10")} {
		checkWharfMemory(t, w)
		w.Heard[0].Time = -1
		checkWharfMemory(t, w)
	}
	r := rand.New(rand.NewSource(284))
	for i := range 150 {
		w := randomWharf(r)
		for len(w.Stew.Copies) > 30 || len(w.Reports) > 5 {
			w = randomWharf(r)
		}
		if i%10 == 0 {
			breakWharf(r, &w)
		}
		checkWharfMemory(t, w)
		if t.Failed() {
			return
		}
	}
	// The texts of a name are new, too.
	service := strings.Clone("web")
	checkOwnTexts(t, []any{service}, []any{impl.FleetCopyName(service, 7), impl.FleetCopyName(service, 7)})
}

// Lists of one fleet that share their memory come back apart.
func TestFleetOfSharedLists(t *testing.T) {
	w := withPlace(withPlace(withService(emptyWharf("a", "b"), webKind(), "1@a:0 2@b:1 3"), "a", 1), "b", 1)
	marks := []string{"color=red", "ssd"}
	runs := []impl.FleetRan{ranOf("web-1", 3, 4), ranOf("web-2", 3, 4)}
	for i := range w.Berths {
		w.Berths[i].Marks = marks
	}
	w.Reports = []impl.FleetReport{{Berth: "a", Runs: runs}, {Berth: "b", Runs: runs[1:]}, {Berth: "a", Runs: runs[:1]}}
	checkWharf(t, "shared", w, "")
	for _, answer := range []any{impl.FleetPilot(w), impl.FleetPlace(w), impl.FleetTell(w)} {
		checkOwnMemory(t, []any{w}, []any{answer})
		checkOwnTexts(t, []any{w}, []any{answer})
	}
}

// What is written into an answer is not seen in another answer to the same, nor in the argument.
func TestFleetAnswersAreTheirOwn(t *testing.T) {
	w := fullWharf()
	spoil := func(w impl.FleetWorld) {
		clear(w.Stew.Copies[:cap(w.Stew.Copies)])
		clear(w.Stew.Services[:cap(w.Stew.Services)])
		clear(w.Slots[:cap(w.Slots)])
		clear(w.Kinds[:cap(w.Kinds)])
		clear(w.Heard[:cap(w.Heard)])
		clear(w.Berths[0].Marks[:cap(w.Berths[0].Marks)])
		clear(w.Reports[0].Runs[:cap(w.Reports[0].Runs)])
		clear(w.Mates.Land.Places[0].Wants)
		clear(w.Mates.Mates[0].Runs)
		clear(w.Berths)
		clear(w.Reports)
		clear(w.Mates.Mates)
		clear(w.Mates.Land.Places)
	}
	for what, call := range map[string]func(impl.FleetWorld) impl.FleetWorld{"place": impl.FleetPlace, "tell": impl.FleetTell} {
		first, second := call(w), call(w)
		before := plainWharf(first)
		spoil(second)
		if !sameWharf(first, before) || !sameWharf(w, fullWharf()) {
			t.Errorf("%s: the answer or the argument has changed", what)
		}
	}
	pilot, wants := impl.FleetPilot(w), impl.FleetWants(w, "a")
	clear(pilot.Berths[0].Marks)
	clear(pilot.Berths)
	clear(pilot.Copies)
	clear(wants)
	if !sameWharf(w, fullWharf()) || sameFleet(impl.FleetPilot(w), pilot) || slices.Equal(impl.FleetWants(w, "a"), wants) {
		t.Error("the argument has changed")
	}
}

// An answer does not hang on the order of a map, nor on who else asks.
func TestFleetSameEveryTime(t *testing.T) {
	r := rand.New(rand.NewSource(285))
	for range 20 {
		w := randomWharf(r)
		placed, told, pilot, wants := impl.FleetPlace(w), impl.FleetTell(w), impl.FleetPilot(w), impl.FleetWants(w, w.Berths[0].Name)
		var all sync.WaitGroup
		for range 4 {
			all.Go(func() {
				for range 10 {
					if !sameWharf(impl.FleetPlace(w), placed) || !sameWharf(impl.FleetTell(w), told) || !sameFleet(impl.FleetPilot(w), pilot) || !slices.Equal(impl.FleetWants(w, w.Berths[0].Name), wants) {
						t.Error("the same call gives another answer")
						return
					}
				}
			})
		}
		all.Wait()
	}
}

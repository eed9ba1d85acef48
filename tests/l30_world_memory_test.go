package tests

import (
	"fmt"
	"math"
	"math/rand"
	"reflect"
	"runtime"
	"slices"
	"strings"
	"sync"
	"testing"
	"time"

	"loop.example/wharffleet/impl"
)

// wharfEvents are some of each kind, and of none; their texts are their own.
func wharfEvents() []impl.FleetEvent {
	var all []impl.FleetEvent
	for kind := 0; kind <= 13; kind++ {
		for _, a := range []int{0, 1, 2, 5, -1, 99} {
			e := needsWish(strings.Clone("web"), webKind())
			e.Kind, e.A, e.B, e.Rates = kind, a, a, []int{1, 4}
			e.Needs.Service, e.Needs.Select = strings.Clone("of its own"), strings.Clone("ssd | other")
			all = append(all, e)
			if kind == impl.FleetWish {
				e.Wish.Name = strings.Clone("ninelette"[a&1:])
				all = append(all, e)
			}
		}
	}
	return all
}

// checkDoMemory holds that a fleet, an event and rates are as they were, also behind their ends, and that what comes back shares no memory with them, and no two lists of it share any.
func checkDoMemory(t *testing.T, w impl.FleetWorld, e impl.FleetEvent, rounds int) {
	t.Helper()
	w = wharfWithRoom(w)
	e.Rates = append(slices.Clone(e.Rates), 4, 4, 4, 4)[:len(e.Rates)]
	before, beforeEvent, beforeRates := wholeWharf(w), e, slices.Clone(e.Rates[:cap(e.Rates)])
	alone, eventAlone := plainWharf(w), e
	eventAlone.Rates = slices.Clone(e.Rates)
	done, calm := impl.FleetDo(w, e), impl.FleetCalm(w, rounds, e.Rates)
	if !reflect.DeepEqual(wholeWharf(w), before) || !reflect.DeepEqual(e, beforeEvent) || !slices.Equal(e.Rates[:cap(e.Rates)], beforeRates) {
		t.Fatalf("%+v: the fleet was %+v, and is %+v", e, before, w)
	}
	checkOwnMemory(t, []any{w, e}, []any{done, calm})
	checkOwnTexts(t, []any{w, e}, []any{done, calm})
	if !sameWharf(impl.FleetDo(alone, eventAlone), done) || !sameWharf(impl.FleetCalm(alone, rounds, eventAlone.Rates), calm) {
		t.Fatalf("what stands behind is asked: %+v of %+v", e, w)
	}
}

func TestFleetDoAndCalmMemory(t *testing.T) {
	t.Parallel()
	fleets := []impl.FleetWorld{emptyWharf("a"), knownWharf(), fullWharf(), settledWharf(), silentSince(webAt("1@a 2e@a 3 4e 5@b 6e@b"), 42, 0, 42, 1), brokenWharves()["Slots"]}
	for i, w := range fleets {
		for j, e := range wharfEvents() {
			checkDoMemory(t, w, e, (i+j)%3)
		}
	}
	r := rand.New(rand.NewSource(321))
	for i := range 150 {
		w := withMail(r, randomWharf(r))
		for len(w.Stew.Copies) > 30 || len(w.Reports) > 8 || len(w.Mates.Flight) > 8 {
			w = withMail(r, randomWharf(r))
		}
		if i%15 == 0 {
			breakWharf(r, &w)
		}
		checkDoMemory(t, w, anyWharfEvent(r, w), r.Intn(3))
	}
}

// Lists and texts of one fleet, and of an event, that share their memory come back apart.
func TestFleetDoOfSharedMemory(t *testing.T) {
	w := withPlace(withPlace(webAt("1@a:0 2@b:1 3"), "a", 1, webWant(1, 0)), "b", 1, webWant(2, 1))
	marks, runs, text := []string{"color=red", "ssd"}, reportOf("a", 1, "web-1/3/4 web-2/3/4").Runs, strings.Clone("here a 1\n")
	for i := range w.Berths {
		w.Berths[i].Marks = marks
	}
	w.Reports = []impl.FleetReport{{Berth: "a", Runs: runs}, {Berth: "b", Runs: runs[1:]}, {Berth: "a", Runs: runs[:1]}}
	w.Mates.Flight = []string{text, text, text[:6], text}
	for _, e := range wharfEvents() {
		e.Needs.Select, e.Wish.Name = e.Needs.Select[:3], e.Wish.Name[:2]
		before := plainWharf(w)
		done, calm := impl.FleetDo(w, e), impl.FleetCalm(w, 1, e.Rates)
		checkOwnMemory(t, []any{w, e}, []any{done, calm})
		checkOwnTexts(t, []any{w, e}, []any{done, calm})
		if !sameWharf(w, before) {
			t.Fatalf("%+v: the fleet was %+v, and is %+v", e, before, w)
		}
	}
}

// What is written into an answer is not seen in another answer to the same, nor in the argument.
func TestFleetDoAnswersAreTheirOwn(t *testing.T) {
	w := fullWharf()
	for _, e := range wharfEvents() {
		first, second := impl.FleetDo(w, e), impl.FleetDo(w, e)
		third, fourth := impl.FleetCalm(w, 1, e.Rates), impl.FleetCalm(w, 1, e.Rates)
		before, beforeCalm := plainWharf(first), plainWharf(third)
		for _, answer := range []impl.FleetWorld{second, fourth} {
			spoilWharf(answer)
		}
		if !sameWharf(first, before) || !sameWharf(third, beforeCalm) || !sameWharf(w, fullWharf()) {
			t.Fatalf("%+v: the answer or the argument has changed", e)
		}
	}
}

// spoilWharf writes into all lists of a fleet, also behind their ends.
func spoilWharf(w impl.FleetWorld) {
	for _, m := range w.Mates.Mates {
		clear(m.Wants[:cap(m.Wants)])
		clear(m.Runs[:cap(m.Runs)])
		clear(m.Asks[:cap(m.Asks)])
		clear(m.Gives[:cap(m.Gives)])
	}
	for _, p := range w.Mates.Land.Places {
		clear(p.Wants[:cap(p.Wants)])
	}
	for _, r := range w.Reports {
		clear(r.Runs[:cap(r.Runs)])
	}
	for _, b := range w.Berths {
		clear(b.Marks[:cap(b.Marks)])
	}
	clear(w.Mates.Land.Grants[:cap(w.Mates.Land.Grants)])
	clear(w.Mates.Land.Places[:cap(w.Mates.Land.Places)])
	clear(w.Mates.Mates[:cap(w.Mates.Mates)])
	clear(w.Mates.Flight[:cap(w.Mates.Flight)])
	clear(w.Stew.Services[:cap(w.Stew.Services)])
	clear(w.Stew.Copies[:cap(w.Stew.Copies)])
	clear(w.Stew.Berths[:cap(w.Stew.Berths)])
	clear(w.Kinds[:cap(w.Kinds)])
	clear(w.Slots[:cap(w.Slots)])
	clear(w.Heard[:cap(w.Heard)])
	clear(w.Reports[:cap(w.Reports)])
	clear(w.Berths[:cap(w.Berths)])
}

// An answer does not hang on how goroutines run, nor on the order of a map: the same call gives the same, many times, and many at a time.
func TestFleetWorldAnyScheduling(t *testing.T) {
	r := rand.New(rand.NewSource(322))
	for range 10 {
		w := withMail(r, randomWharf(r))
		for len(w.Mates.Flight) > 20 {
			w = withMail(r, randomWharf(r))
		}
		e := anyWharfEvent(r, w)
		done, calm := modelWharfDo(w, e, noNote), modelWharfCalm(w, 2, e.Rates, noNote)
		var all sync.WaitGroup
		for range 8 {
			all.Go(func() {
				for range 5 {
					if !sameWharf(impl.FleetDo(w, e), done) || !sameWharf(impl.FleetCalm(w, 2, e.Rates), calm) {
						t.Error("the same call gives another answer")
						return
					}
				}
			})
		}
		all.Wait()
	}
}

// All that a call starts has ended when it answers.
func TestFleetWorldLeavesNothingBehind(t *testing.T) {
	before := runtime.NumGoroutine()
	for _, w := range []impl.FleetWorld{fullWharf(), settledWharf(), {}, brokenWharves()["Mates"]} {
		for _, e := range wharfEvents() {
			impl.FleetDo(w, e)
		}
		for rounds := range 4 {
			impl.FleetCalm(w, rounds, nil)
		}
	}
	for range 100 {
		if runtime.NumGoroutine() <= before {
			return
		}
		time.Sleep(time.Millisecond)
	}
	t.Errorf("%d goroutines, and %d before", runtime.NumGoroutine(), before)
}

// The fleet that has the most of all, behind each kind of event, and behind rounds.
func TestFleetWorldGreat(t *testing.T) {
	t.Parallel()
	w := greatWharf()
	for kind := 1; kind <= 12; kind++ {
		for _, a := range []int{0, 3, 59, 299} {
			e := needsWish(w.Stew.Services[0].Name, w.Kinds[0])
			e.Kind, e.A, e.B, e.Rates = kind, a, 1, []int{4, 4, 4, 4}
			checkWharfDone(t, "a great one", w, e, noNote)
		}
	}
	checkWharfCalm(t, "a great one", w, 1, []int{4, 1, 4, 1}, noNote)
	// One version is left, and what the stewards and the land do in one round are many changes.
	last := plainWharf(w)
	last.Stew.Now = 999999
	for i := range last.Stew.Services {
		last.Stew.Services[i].Version = 1
	}
	for i := range last.Stew.Copies {
		last.Stew.Copies[i].Version = 1
	}
	if got := checkWharfCalm(t, "the last change", last, 1, nil, noNote); got.Stew.Now != 1000000 {
		t.Errorf("it is %d now", got.Stew.Now)
	}
	inGoodTime(t, "a great one in many rounds", func() {
		if got := impl.FleetCalm(w, 300, []int{4, 1, 4, 1}); !impl.FleetValid(got) || got.Mates.Land.Time != w.Mates.Land.Time+600 {
			t.Errorf("%+v", got.Mates.Land)
		}
	})
}

// The greatest and the least int, and those next to limits, as every number of an event, one by one and all at once.
func TestFleetEventFarthestNumbers(t *testing.T) {
	t.Parallel()
	numbersIn := func(e *impl.FleetEvent) []reflect.Value { return partsOf(reflect.ValueOf(e).Elem(), reflect.Int) }
	fresh := func(kind int) impl.FleetEvent {
		e := needsWish("new", webKind())
		e.Kind, e.Rates = kind, []int{1, 4, 3}
		return e
	}
	whole := fresh(1)
	if n := len(numbersIn(&whole)); n != 24 {
		t.Fatalf("an event has %d numbers", n)
	}
	w := settledWharf()
	w.Mates.Flight, w.Reports = []string{"told a 5\n", "x"}, fullWharf().Reports
	changed := 0
	for _, n := range []int{math.MinInt, math.MinInt + 1, -1, 0, 1, 2, 12, 13, 1000000, 1000001, math.MaxInt - 1, math.MaxInt} {
		for kind := 1; kind <= 12; kind++ {
			for i := range len(numbersIn(&whole)) + 1 {
				if kind != impl.FleetWish && i > 5 && i < 24 {
					continue // what it has of a wish counts for nothing
				}
				e := fresh(kind)
				for at, number := range numbersIn(&e) {
					if at == i || i == 24 {
						number.SetInt(int64(n))
					}
				}
				if got := checkWharfDone(t, fmt.Sprintf("number %d is %d", i, n), w, e, noNote); !sameWharf(got, w) {
					changed++
				}
			}
		}
		checkWharfCalm(t, "rates", w, 1, []int{n, n, n, n}, noNote)
		if n < 13 {
			checkWharfCalm(t, "rounds", w, n, nil, noNote)
		}
	}
	if changed < 300 {
		t.Errorf("%d events change something: the numbers tell too little", changed)
	}
}

// The same as every number of a fleet. (That it is valid or not is asked with chapters 27 and 28.)
func TestFleetWorldFarthestNumbers(t *testing.T) {
	t.Parallel()
	numbersIn := func(w *impl.FleetWorld) []reflect.Value {
		return partsOf(reflect.ValueOf(w).Elem(), reflect.Int)
	}
	fresh := func() impl.FleetWorld {
		w := plainWharf(settledWharf())
		w.Mates.Mates[1].Asks = []impl.MateAsk{{Hold: "v-web-2", Copy: "web-3", First: 2, At: 8}}
		w.Mates.Land.Grants = []impl.MateGrant{{Hold: "v-web-2", Berth: "b", Copy: "web-3", At: 2}}
		w.Reports = []impl.FleetReport{reportOf("a", 4, "web-1/3/4")}
		return w
	}
	whole := fresh()
	met := map[bool]int{}
	for _, n := range []int{math.MinInt, -1, 0, 1, 1000000, 1000001, math.MaxInt} {
		for i := range len(numbersIn(&whole)) + 1 {
			w := fresh()
			for at, number := range numbersIn(&w) {
				if at == i || i == len(numbersIn(&whole)) {
					number.SetInt(int64(n))
				}
			}
			what := fmt.Sprintf("number %d is %d", i, n)
			checkWharfDone(t, what, w, impl.FleetEvent{Kind: 1 + i%12, A: 1}, noNote)
			if i%4 == 0 {
				checkWharfCalm(t, what, w, 1, nil, noNote)
			}
			met[impl.FleetValid(w)]++
		}
	}
	if met[true] < 100 || met[false] < 100 {
		t.Errorf("the numbers tell too little: %v", met)
	}
}

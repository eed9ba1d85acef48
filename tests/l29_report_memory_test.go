package tests

import (
	"fmt"
	"math"
	"math/rand"
	"reflect"
	"slices"
	"strings"
	"sync"
	"testing"

	"loop.example/wharffleet/impl"
)

// reportWithRoom has room behind the end of its list, filled, so that a write there is seen; its texts are its own.
func reportWithRoom(r impl.FleetReport) impl.FleetReport {
	r.Berth = strings.Clone(r.Berth)
	r.Runs = append(slices.Clone(r.Runs), ranOf("behind", 1, 1), ranOf("farther", 2, 2))[:len(r.Runs)]
	for i := range r.Runs {
		r.Runs[i].Copy = strings.Clone(r.Runs[i].Copy)
	}
	return r
}

// wholeReport is such a report with what stands behind its end.
func wholeReport(r impl.FleetReport) impl.FleetReport {
	r.Runs = slices.Clone(r.Runs[:cap(r.Runs)])
	return r
}

// checkHearMemory holds that a fleet and a report are as they were, also behind their ends, and that what comes back shares no memory with them, and no two lists of it share any.
func checkHearMemory(t *testing.T, w impl.FleetWorld, r impl.FleetReport) {
	t.Helper()
	w, r = wharfWithRoom(w), reportWithRoom(r)
	before, reportBefore, alone := wholeWharf(w), wholeReport(r), plainWharf(w)
	heard, swept := impl.FleetHear(w, r), impl.FleetSweep(w)
	if !reflect.DeepEqual(wholeWharf(w), before) || !reflect.DeepEqual(wholeReport(r), reportBefore) {
		t.Errorf("the fleet and the report were %+v, %+v, and are %+v, %+v", before, reportBefore, w, r)
	}
	checkOwnMemory(t, []any{w, r}, []any{heard, swept})
	checkOwnTexts(t, []any{w, r}, []any{heard, swept})
	r.Runs = nilIfEmpty(r.Runs)
	if !sameWharf(impl.FleetHear(alone, r), heard) || !sameWharf(impl.FleetSweep(alone), swept) {
		t.Errorf("what stands behind is asked: %+v", w)
	}
}

func TestFleetHearAndSweepMemory(t *testing.T) {
	t.Parallel()
	fleets := []impl.FleetWorld{emptyWharf("a"), threeBerths(), fullWharf(), silentSince(webAt("1@a 2e@a 3 4e 5@b 6e@b"), 42, 0, 42, 1)}
	for _, w := range fleets {
		for _, report := range append(fullWharf().Reports, impl.FleetReport{}, reportOf("a", 9, ""), reportOf("b", 9, "db-9/6/4 web-5/3/5"), reportOf("a", -1, "web-1/3/4")) {
			checkHearMemory(t, w, report)
		}
		w.Heard[0].Time = -1
		checkHearMemory(t, w, reportOf("a", 9, "web-1/3/4"))
	}
	r := rand.New(rand.NewSource(296))
	for i := range 150 {
		w := withEndingWanted(r, randomWharf(r))
		for len(w.Stew.Copies) > 30 || len(w.Reports) > 5 {
			w = withEndingWanted(r, randomWharf(r))
		}
		if i%10 == 0 {
			breakWharf(r, &w)
		}
		checkHearMemory(t, w, reportNear(r, w))
		if t.Failed() {
			return
		}
	}
}

// A report that is one of the fleet's own, or shares its memory with it, is heard as any other one.
func TestFleetHearOfSharedLists(t *testing.T) {
	w := webAt("1@a 2e@a 3@b")
	runs := reportOf("a", 0, "web-1/3/4 web-2/3/4 web-3/3/4").Runs
	w.Reports = []impl.FleetReport{{Berth: "a", Seen: 3, Runs: runs[:1]}, {Berth: "b", Runs: runs[1:2]}, {Berth: "a", Runs: runs}}
	for _, r := range w.Reports {
		before := plainWharf(w)
		next := checkHeard(t, "its own", w, r, noNote)
		if !sameWharf(w, before) || len(next.Reports) != 3 {
			t.Errorf("the fleet was %+v, and is %+v", before, w)
		}
		checkOwnMemory(t, []any{w, r}, []any{next, impl.FleetSweep(w)})
		checkOwnTexts(t, []any{w, r}, []any{next, impl.FleetSweep(w)})
	}
}

func TestFleetReportOfMemory(t *testing.T) {
	t.Parallel()
	r := rand.New(rand.NewSource(297))
	for i := range 400 {
		m := mateWithRoom(randomMate(r))
		if i < 4 {
			m = mateWithRoom([]impl.Mate{fullMate(), downMate(), greatMate(), {Name: "a", Up: true}}[i])
		}
		if i%10 == 9 {
			m.Name = ""
		}
		m.Name = strings.Clone(m.Name)
		before := wholeMate(m)
		got := checkReportOf(t, "memory", m)
		if !reflect.DeepEqual(wholeMate(m), before) {
			t.Fatalf("the mate was %+v, and is %+v", before, m)
		}
		checkOwnMemory(t, []any{m}, []any{got})
		checkOwnTexts(t, []any{m}, []any{got})
	}
	// What is written into an answer is not seen in another one, nor in the mate.
	m := fullMate()
	first, second := impl.FleetReportOf(m), impl.FleetReportOf(m)
	clear(second.Runs[:cap(second.Runs)])
	if !sameReport(first, modelReportOf(fullMate())) || !reflect.DeepEqual(plainMate(m), plainMate(fullMate())) {
		t.Error("the answer or the argument has changed")
	}
}

// What is written into an answer is not seen in another answer to the same, nor in the arguments.
func TestFleetHearAndSweepAnswersAreTheirOwn(t *testing.T) {
	w, r := fullWharf(), reportOf("b", 7, "db-9/6/4")
	for what, call := range map[string]func() impl.FleetWorld{
		"hear":     func() impl.FleetWorld { return impl.FleetHear(w, r) },
		"hear not": func() impl.FleetWorld { return impl.FleetHear(w, impl.FleetReport{}) },
		"sweep":    func() impl.FleetWorld { return impl.FleetSweep(w) },
	} {
		first, second := call(), call()
		before := plainWharf(first)
		clear(second.Stew.Copies[:cap(second.Stew.Copies)])
		clear(second.Stew.Services[:cap(second.Stew.Services)])
		clear(second.Slots[:cap(second.Slots)])
		clear(second.Kinds[:cap(second.Kinds)])
		clear(second.Heard[:cap(second.Heard)])
		clear(second.Reports[0].Runs[:cap(second.Reports[0].Runs)])
		clear(second.Reports[:cap(second.Reports)])
		clear(second.Mates.Land.Places[0].Wants)
		if !sameWharf(first, before) || !sameWharf(w, fullWharf()) || !sameReport(r, reportOf("b", 7, "db-9/6/4")) {
			t.Errorf("%s: the answer or an argument has changed", what)
		}
	}
}

// The greatest and the least int, and those next to limits, as every number of a report and of a mate, one by one and all at once. (Those of a fleet are asked with chapters 27 and 28.)
func TestFleetReportFarthestNumbers(t *testing.T) {
	t.Parallel()
	w := silentSince(webAt("1@a 2e@a 3@b"), 42, 0, 42, 42)
	met := map[bool]int{}
	for _, n := range []int{math.MinInt, math.MinInt + 1, -1, 0, 1, 3, 6, 7, 999999, 1000000, 1000001, math.MaxInt - 1, math.MaxInt} {
		for i := range 6 {
			r := reportOf("a", 4, "web-1/3/4 web-3/3/4")
			numbers := partsOf(reflect.ValueOf(&r).Elem(), reflect.Int)
			for at, number := range numbers {
				if at == i || i == len(numbers) { // the last time all of them
					number.SetInt(int64(n))
				}
			}
			next := checkHeard(t, fmt.Sprintf("number %d is %d", i, n), w, r, noNote)
			met[next.Heard[0].Time == 42]++
		}
		for i := range len(partsOf(reflect.ValueOf(new(fullMate())).Elem(), reflect.Int)) + 1 {
			m := plainMate(fullMate())
			numbers := partsOf(reflect.ValueOf(&m).Elem(), reflect.Int)
			for at, number := range numbers {
				if at == i || i == len(numbers) {
					number.SetInt(int64(n))
				}
			}
			checkReportOf(t, fmt.Sprintf("number %d is %d", i, n), m)
		}
	}
	if met[true] < 20 || met[false] < 20 {
		t.Errorf("the numbers tell too little: %v", met)
	}
}

// A great fleet, and all of its reports, again and again.
func TestFleetHearAndSweepGreat(t *testing.T) {
	w := greatWharf()
	for i := range w.Berths {
		r := w.Reports[0]
		r.Berth = w.Berths[i].Name
		checkHeard(t, "a great one", w, r, noNote)
		w.Heard[i].Time = 0
	}
	if next := checkSwept(t, "a great one", w, noNote); w.Stew.Now == 1000000 && len(next.Stew.Copies) != 200 {
		t.Errorf("%d copies are left", len(next.Stew.Copies))
	}
	lesser := plainWharf(w)
	lesser.Stew.Now = 999999
	for i := range lesser.Stew.Services {
		lesser.Stew.Services[i].Version = 1
	}
	for i := range lesser.Stew.Copies {
		lesser.Stew.Copies[i].Version = 1
	}
	for i := range w.Berths {
		r := lesser.Reports[0]
		r.Berth = lesser.Berths[i].Name
		checkHeard(t, "a great one that may change", lesser, r, noNote)
	}
	if next := checkSwept(t, "a great one that may change", lesser, noNote); len(next.Stew.Copies) != 0 || len(next.Slots) != 0 || len(next.Kinds) != 8 {
		t.Errorf("%d copies are left, %d slots, %d kinds", len(next.Stew.Copies), len(next.Slots), len(next.Kinds))
	}
	inGoodTime(t, "a great one, again and again", func() {
		for range 30 {
			impl.FleetHear(w, w.Reports[0])
			impl.FleetHear(lesser, impl.FleetReport{Berth: w.Berths[0].Name})
			impl.FleetSweep(lesser)
		}
	})
}

// An answer does not hang on the order of a map, nor on who else asks.
func TestFleetHearAndSweepSameEveryTime(t *testing.T) {
	r := rand.New(rand.NewSource(298))
	for range 20 {
		w := withEndingWanted(r, randomWharf(r))
		report := reportNear(r, w)
		heard, swept := impl.FleetHear(w, report), impl.FleetSweep(w)
		var all sync.WaitGroup
		for range 4 {
			all.Go(func() {
				for range 10 {
					if !sameWharf(impl.FleetHear(w, report), heard) || !sameWharf(impl.FleetSweep(w), swept) || !sameReport(impl.FleetReportOf(w.Mates.Mates[0]), modelReportOf(w.Mates.Mates[0])) {
						t.Error("the same call gives another answer")
						return
					}
				}
			})
		}
		all.Wait()
	}
}

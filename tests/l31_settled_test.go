package tests

import (
	"fmt"
	"math/rand"
	"reflect"
	"slices"
	"strings"
	"sync"
	"testing"

	"loop.example/wharffleet/impl"
)

// A second reading of chapter 31, made another way than the program: what is not so is gathered, and places and wants are held against each other as texts.

func modelWharfSafe(w impl.FleetWorld) bool {
	return len(modelWharfFaults(w)) == 0 && modelSafe(w.Mates)
}

// modelUnsettled are the conditions of a fleet that is settled that one does not meet.
func modelUnsettled(w impl.FleetWorld) []string {
	if len(modelWharfFaults(w)) > 0 {
		return []string{"valid"}
	}
	var left []string
	if !modelDone(w.Stew) {
		left = append(left, "done")
	}
	if !modelSettled(w.Mates) {
		left = append(left, "mates")
	}
	for _, b := range w.Berths {
		if fmt.Sprint(nilIfEmpty(placeOf(w, b.Name).Wants)) != fmt.Sprint(modelWanted(w, b.Name)) {
			left = append(left, "place "+b.Name)
		}
	}
	return left
}

// checkSettled holds FleetSafe and FleetSettled against the second reading.
func checkSettled(t *testing.T, what string, w impl.FleetWorld) {
	t.Helper()
	if got := impl.FleetSafe(w); got != modelWharfSafe(w) {
		t.Fatalf("%s: FleetSafe is %v: %+v", what, got, w)
	}
	if got, left := impl.FleetSettled(w), modelUnsettled(w); got != (len(left) == 0) {
		t.Fatalf("%s: FleetSettled is %v, but for %q: %+v", what, got, left, w)
	}
}

// settledWharf is settled: two copies of web run on a and one on b, c has nothing to run, and was never told of anything.
func settledWharf() impl.FleetWorld {
	w := webAt("1@a:0 2@a:1 3@b:2")
	w = withPlace(withPlace(w, "a", 4, webWant(1, 0), webWant(2, 1)), "b", 2, webWant(3, 2))
	for i, p := range w.Mates.Land.Places {
		m := impl.Mate{Name: p.Berth, Up: true, Clock: 10, Known: true, Seen: p.Seen, Wants: slices.Clone(p.Wants)}
		for _, want := range p.Wants {
			m.Runs = append(m.Runs, impl.MateRun{Want: want, State: impl.MateReady, Until: 20})
		}
		w.Mates.Mates[i] = m
	}
	return w
}

// checkUnsettled holds that a fleet that was settled is not, for these conditions alone, or is, for none.
func checkUnsettled(t *testing.T, what string, change func(w *impl.FleetWorld), want ...string) {
	t.Helper()
	w := settledWharf()
	change(&w)
	checkSettled(t, what, w)
	if left := modelUnsettled(w); !slices.Equal(left, want) {
		t.Errorf("%s: it is not settled for %q, not for %q: %+v", what, left, want, w)
	}
}

func TestFleetSettled(t *testing.T) {
	checkUnsettled(t, "as it is", func(w *impl.FleetWorld) {})
	checkUnsettled(t, "not valid", func(w *impl.FleetWorld) { w.Heard[0].Time = -1 }, "valid")
	// The stewards' book.
	for what, change := range map[string]func(w *impl.FleetWorld){
		"one more is wanted": func(w *impl.FleetWorld) { w.Stew.Services[0].Want = 4 },
		"one less is wanted": func(w *impl.FleetWorld) { w.Stew.Services[0].Want = 2 },
		"it is gone":         func(w *impl.FleetWorld) { w.Stew.Services[0].Gone = true },
		"another image":      func(w *impl.FleetWorld) { w.Stew.Services[0].Image = 4 },
		"one is starting":    func(w *impl.FleetWorld) { w.Stew.Copies[1].State = impl.StewStarting },
		"one has failed":     func(w *impl.FleetWorld) { w.Stew.Copies[2].State = impl.StewFailed },
		"a drained berth":    func(w *impl.FleetWorld) { w.Stew.Berths[1].Drain = true },
		"its load":           func(w *impl.FleetWorld) { s := &w.Stew.Services[0]; s.Per, s.Most, s.Load = 5, 9, 20 },
		"its cool":           func(w *impl.FleetWorld) { s := &w.Stew.Services[0]; s.Per, s.Most, s.Load, s.Cool = 5, 9, 15, 1 },
		"one is ending": func(w *impl.FleetWorld) {
			w.Stew.Services[0].Next = 5
			w.Stew.Copies = append(w.Stew.Copies, impl.StewCopy{Service: "web", Number: 4, Version: 1, Image: 3, State: impl.StewReady, Ending: true, Berth: "c"})
		},
	} {
		checkUnsettled(t, what, change, "done")
	}
	checkUnsettled(t, "a drained berth with nothing", func(w *impl.FleetWorld) { w.Stew.Berths[2].Drain = true })
	checkUnsettled(t, "as its load is", func(w *impl.FleetWorld) { s := &w.Stew.Services[0]; s.Per, s.Most, s.Load = 5, 9, 15 })
	// The mates' world.
	for what, change := range map[string]func(w *impl.FleetWorld){
		"a mate with nothing is down": func(w *impl.FleetWorld) { w.Mates.Mates[2].Up = false },
		"a mate is down":              func(w *impl.FleetWorld) { w.Mates.Mates[1] = impl.MateFall(w.Mates.Mates[1], false) },
		"a run is starting":           func(w *impl.FleetWorld) { w.Mates.Mates[0].Runs[1].State = impl.MateStarting },
		"a run is missing":            func(w *impl.FleetWorld) { w.Mates.Mates[0].Runs = w.Mates.Mates[0].Runs[1:] },
		"a run of another version":    func(w *impl.FleetWorld) { w.Mates.Mates[1].Runs[0].Want.Version = 2 },
		"a run too many": func(w *impl.FleetWorld) {
			w.Mates.Mates[2].Runs = []impl.MateRun{{Want: impl.MateWant{Copy: "x", Version: 1}, State: impl.MateReady}}
		},
	} {
		checkUnsettled(t, what, change, "mates")
	}
	checkUnsettled(t, "a run that has died once", func(w *impl.FleetWorld) { w.Mates.Mates[0].Runs[0].Falls = 3 })
	checkUnsettled(t, "what flies", func(w *impl.FleetWorld) { w.Mates.Flight = []string{"told a 5\n"} })
	checkUnsettled(t, "what is reported", func(w *impl.FleetWorld) { w.Reports = []impl.FleetReport{{Berth: "a"}} })
	checkUnsettled(t, "what is silent", func(w *impl.FleetWorld) { w.Mates.Land.Time = 100 })
}

// A place wants its berth's FleetWants in all but one field, and its mate runs just what the place wants.
func TestFleetSettledPlaces(t *testing.T) {
	wants := map[string]func(w *impl.MateWant){
		"Copy":    func(w *impl.MateWant) { w.Copy += "0" },
		"Version": func(w *impl.MateWant) { w.Version++ },
		"Hold":    func(w *impl.MateWant) { w.Hold += "0" },
		"no Hold": func(w *impl.MateWant) { w.Hold = "" },
		"Pull":    func(w *impl.MateWant) { w.Pull++ },
		"Start":   func(w *impl.MateWant) { w.Start-- },
		"Dies":    func(w *impl.MateWant) { w.Dies = 1 },
		"Grace":   func(w *impl.MateWant) { w.Grace++ },
	}
	for what, change := range wants {
		for at, places := range [][]string{{"place a"}, {"place b"}} {
			checkUnsettled(t, what, func(w *impl.FleetWorld) {
				last := len(w.Mates.Land.Places[at].Wants) - 1
				change(&w.Mates.Land.Places[at].Wants[last])
				run := &w.Mates.Mates[at].Runs[last]
				run.Want = w.Mates.Land.Places[at].Wants[last]
				if run.Want.Hold == "" {
					run.Until = 0
				}
			}, places...)
		}
	}
	without := func(w *impl.FleetWorld, at int) {
		w.Mates.Land.Places = slices.Delete(w.Mates.Land.Places, at, at+1)
		w.Mates.Mates[at].Runs = nil
	}
	checkUnsettled(t, "no place where something is wanted", func(w *impl.FleetWorld) { without(w, 0) }, "place a")
	checkUnsettled(t, "no place where something is wanted, the last", func(w *impl.FleetWorld) { without(w, 1) }, "place b")
	checkUnsettled(t, "no place at all", func(w *impl.FleetWorld) { without(w, 1); without(w, 0) }, "place a", "place b")
	checkUnsettled(t, "a place that wants nothing", func(w *impl.FleetWorld) {
		w.Mates.Land.Places = append(w.Mates.Land.Places, impl.MatePlace{Berth: "c", Seen: 1})
	})
	checkUnsettled(t, "a place that wants too much", func(w *impl.FleetWorld) {
		want := impl.MateWant{Copy: "x", Version: 1}
		w.Mates.Land.Places = append(w.Mates.Land.Places, impl.MatePlace{Berth: "c", Seen: 1, Wants: []impl.MateWant{want}})
		w.Mates.Mates[2].Runs = []impl.MateRun{{Want: want, State: impl.MateReady}}
	}, "place c")
	checkUnsettled(t, "a place that wants too little", func(w *impl.FleetWorld) {
		w.Mates.Land.Places[0].Wants, w.Mates.Mates[0].Runs = w.Mates.Land.Places[0].Wants[:1], w.Mates.Mates[0].Runs[:1]
	}, "place a")
	// Another slot is another volume.
	checkUnsettled(t, "another slot", func(w *impl.FleetWorld) { w.Slots[2].Slot = 9 }, "place b")
	checkUnsettled(t, "another kind", func(w *impl.FleetWorld) { w.Kinds[0].Pull = 9 }, "place a", "place b")
	// With nothing there it is settled.
	for _, w := range []impl.FleetWorld{emptyWharf("a"), threeBerths(), impl.FleetNew(emptyWharf("a", "b").Berths)} {
		if checkSettled(t, "berths alone", w); !impl.FleetSettled(w) || !impl.FleetSafe(w) {
			t.Errorf("%+v", w)
		}
	}
}

func TestFleetSafe(t *testing.T) {
	safe := func(what string, want bool, change func(w *impl.FleetWorld)) {
		t.Helper()
		w := settledWharf()
		change(&w)
		checkSettled(t, what, w)
		if impl.FleetSafe(w) != want {
			t.Errorf("%s: safe is %v", what, !want)
		}
	}
	run := func(state int) func(w *impl.FleetWorld) {
		return func(w *impl.FleetWorld) {
			want := webWant(9, 0)
			w.Mates.Mates[2].Clock, w.Mates.Mates[2].Runs = 10, []impl.MateRun{{Want: want, State: state, Until: 20}}
		}
	}
	safe("as it is", true, func(w *impl.FleetWorld) {})
	for state := 1; state <= 6; state++ {
		alive := state == impl.MateStarting || state == impl.MateReady || state == impl.MateStopping
		safe(fmt.Sprint("another one in state ", state), !alive, run(state))
	}
	safe("another hold", true, func(w *impl.FleetWorld) {
		run(impl.MateReady)(w)
		w.Mates.Mates[2].Runs[0].Want.Hold = "v-web-9"
	})
	safe("two on one berth", false, func(w *impl.FleetWorld) { w.Mates.Mates[0].Runs[1].Want.Hold = "v-web-0" })
	safe("no hold", true, func(w *impl.FleetWorld) {
		for i := range 2 {
			w.Mates.Mates[i].Runs[0].Want.Hold, w.Mates.Mates[i].Runs[0].Until = "", 0
		}
	})
	// What is not settled may be safe.
	safe("not done", true, func(w *impl.FleetWorld) { w.Stew.Services[0].Want = 9 })
	// Mates that are safe do not make a fleet that is not valid so.
	for what, w := range brokenWharves() {
		if checkSettled(t, what, w); impl.FleetSafe(w) {
			t.Errorf("%s: it is safe", what)
		}
	}
	safe("not valid", false, func(w *impl.FleetWorld) { w.Kinds[0].Rank = -1 })
	safe("no slots", false, func(w *impl.FleetWorld) { w.Slots = nil })
	safe("the mates are not ok", false, func(w *impl.FleetWorld) { w.Mates.Mates[0].Clock = 17 })
}

// Fleets that tales have led to, at rest, and one thing of them not so.
func TestFleetSettledAsRead(t *testing.T) {
	t.Parallel()
	r := rand.New(rand.NewSource(312))
	met := map[string]int{}
	for range 25 {
		x := newWharfTale(t, r, map[string]int{})
		x.live(6)
		x.calmed()
		rest := impl.FleetCalm(x.w, 80, nil)
		for range 40 {
			w := plainWharf(rest)
			switch r.Intn(6) {
			case 0:
				undoBook(r, &w.Stew)
			case 1:
				w.Mates.Mates[r.Intn(len(w.Berths))] = impl.MateFall(w.Mates.Mates[0], r.Intn(2) == 0)
			case 2:
				breakWharf(r, &w)
			case 3:
				w = impl.FleetDo(w, anyWharfEvent(r, w))
			case 4:
				if len(w.Kinds) > 0 {
					k := &w.Kinds[r.Intn(len(w.Kinds))]
					*pickOf(r, &k.Pull, &k.Start, &k.Grace, &k.Rank) = r.Intn(7)
					k.Volume = k.Volume != (r.Intn(4) == 0)
				}
			}
			checkSettled(t, "at rest, or nearly so", w)
			left := strings.Join(modelUnsettled(w), ", ")
			if strings.HasPrefix(left, "place") {
				left = "place"
			}
			met[left]++
		}
	}
	for _, what := range []string{"", "valid", "done", "mates", "place"} {
		if met[what] < 10 {
			t.Errorf("the fleets tell too little of %q: %v", what, met)
		}
	}
}

func checkWaits(t *testing.T, what string, w impl.FleetWorld, want ...string) {
	t.Helper()
	if got := impl.FleetWaits(w); !slices.Equal(got, want) {
		t.Errorf("%s: %q, not %q", what, got, want)
	}
}

func TestFleetWaits(t *testing.T) {
	checkWaits(t, "none", impl.FleetWorld{})
	checkWaits(t, "berths alone", threeBerths())
	checkWaits(t, "all stand", settledWharf())
	w := withService(emptyWharf("a", "b"), webKind(), "1@a 2e 3e@b 9 10")
	checkWaits(t, "by birth", w, "web-9: fits on a", "web-10: fits on a")
	checkWaits(t, "nothing behind it", impl.FleetPlace(w))
	checkWaits(t, "one", withService(emptyWharf("a", "b"), webKind(), "1@a 2"), "web-2: fits on b")
	w.Stew.Berths[0].Drain = true
	w.Berths[1].Room = 10
	checkWaits(t, "no room", w, "web-9: 0 of 2 berths: 1 closed, 1 without room", "web-10: 0 of 2 berths: 1 closed, 1 without room")
	w = withService(w, impl.FleetKind{Service: "xl", Rank: 1, Select: "ssd"}, "1")
	checkWaits(t, "by rank", w, "xl-1: 0 of 2 berths: 1 closed, 1 not marked so", "web-9: 0 of 2 berths: 1 closed, 1 without room", "web-10: 0 of 2 berths: 1 closed, 1 without room")
	w.Berths[1].Room = 9
	checkWaits(t, "no fleet for the pilot", w)
	w.Berths[1].Room, w.Heard[0].Time = 10, -1
	checkWaits(t, "a fleet that is not valid", w)
	// What could stand for others is told, though nobody does that in a fleet.
	w = withService(withService(emptyWharf("a"), webKind(), "1@a 2@a"), impl.FleetKind{Service: "xl", Rank: 1, Room: 985}, "1")
	checkWaits(t, "for another one", w, "xl-1: 0 of 1 berths: 1 without room; could stand on a for web-1")
	// A silent berth is closed.
	w = silentSince(webAt("1"), 42, 0, 0, 1)
	checkWaits(t, "silent", w, "web-1: 0 of 3 berths: 3 closed")
}

func TestFleetWaitsAsRead(t *testing.T) {
	t.Parallel()
	r := rand.New(rand.NewSource(311))
	waits := 0
	for i := range 300 {
		w := randomWharf(r)
		if i%20 == 0 {
			breakWharf(r, &w)
		}
		f := modelPilotOf(w)
		var want []string
		if modelFleetFault(f) == "" {
			for _, c := range modelQueue(f) {
				want = append(want, strings.Join([]string{c.Name, impl.PilotWhy(f, c.Name)}, ": "))
			}
		}
		checkWaits(t, "a random one", w, want...)
		waits += len(want)
	}
	if waits < 300 {
		t.Errorf("%d wait: the fleets tell too little", waits)
	}
}

// What chapter 31 asks leaves a fleet as it was, also behind its ends, and its answer shares nothing with it.
func TestFleetSettledMemory(t *testing.T) {
	t.Parallel()
	r := rand.New(rand.NewSource(320))
	fleets := []impl.FleetWorld{settledWharf(), fullWharf(), webAt("1 2 3e@a"), brokenWharves()["Kinds"]}
	for range 60 {
		fleets = append(fleets, withMail(r, randomWharf(r)))
	}
	for _, w := range fleets {
		w = wharfWithRoom(w)
		before := wholeWharf(w)
		settled, safe, waits := impl.FleetSettled(w), impl.FleetSafe(w), impl.FleetWaits(w)
		if !reflect.DeepEqual(wholeWharf(w), before) {
			t.Fatalf("the fleet was %+v, and is %+v", before, w)
		}
		checkOwnMemory(t, []any{w}, []any{waits})
		checkOwnTexts(t, []any{w}, []any{waits})
		alone := plainWharf(w)
		if impl.FleetSettled(alone) != settled || impl.FleetSafe(alone) != safe || !slices.Equal(impl.FleetWaits(alone), waits) {
			t.Fatalf("what stands behind is asked: %+v", w)
		}
		var all sync.WaitGroup
		for range 3 {
			all.Go(func() {
				if impl.FleetSettled(w) != settled || impl.FleetSafe(w) != safe || !slices.Equal(impl.FleetWaits(w), waits) {
					t.Error("the same call gives another answer")
				}
			})
		}
		all.Wait()
	}
}

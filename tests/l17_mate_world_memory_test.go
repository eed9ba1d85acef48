package tests

import (
	"fmt"
	"math/rand"
	"reflect"
	"runtime"
	"slices"
	"strings"
	"sync"
	"testing"
	"time"

	"loop.example/wharffleet/impl"
)

// greatWorld has the most of all, each with the greatest names and numbers.
func greatWorld() impl.MateWorld {
	w := impl.MateWorld{Land: greatLand()}
	w.Land.Time = 1000000
	for i := range w.Land.Grants {
		w.Land.Grants[i].Until = 1000032
	}
	for i, p := range w.Land.Places {
		m := greatMate()
		m.Name = p.Berth
		for j := range m.Runs {
			r := &m.Runs[j].Want
			r.Hold = fmt.Sprint(i, r.Hold[1:])
		}
		w.Mates = append(w.Mates, m)
	}
	var texts []string
	for _, p := range w.Land.Places {
		texts = append(texts, impl.MateForm(impl.MateParcel{Kind: impl.MateTold, Berth: p.Berth, Seen: p.Seen, Wants: p.Wants}))
	}
	for _, g := range w.Land.Grants {
		for _, kind := range []int{impl.MateAsked, impl.MateGiven, impl.MateBack} {
			texts = append(texts, impl.MateForm(impl.MateParcel{Kind: kind, Berth: g.Berth, Hold: g.Hold, Copy: g.Copy, At: g.At}))
		}
	}
	for len(texts) < 300 {
		texts = append(texts, strings.Repeat("~", 100))
	}
	w.Flight = texts
	return w
}

func TestMateWorldGreat(t *testing.T) {
	w := greatWorld()
	checkWorldOk(t, "a great one", w, true)
	if len(w.Mates) != impl.MateMaxBerths || len(w.Mates[3].Runs) != 2*impl.MateMaxWants || len(w.Mates[3].Asks) != impl.MateMaxHolds || len(w.Mates[3].Gives) != impl.MateMaxHolds || len(w.Land.Grants) != impl.MateMaxHolds || len(w.Flight) != impl.MateMaxFlight || slices.Contains(w.Flight, "") {
		t.Fatal(len(w.Mates), len(w.Flight))
	}
	if !impl.MateSafe(w) || impl.MateSettled(w) {
		t.Error("a great one is not safe, or is settled")
	}
	for place := range w.Flight {
		for kind := impl.MateEvBring; kind <= impl.MateEvLose; kind++ {
			if place%20 < 2 {
				checkWorldOk(t, "behind an event", checkDone(t, w, impl.MateEvent{Kind: kind, A: place}, noNote), true)
			}
		}
	}
	// All that four great mates send: for lack of room nothing of it flies, or the first of it.
	full := checkDone(t, w, impl.MateEvent{Kind: impl.MateEvTick, Rates: []int{4, 4, 4, 4}}, noNote)
	if !slices.Equal(full.Flight, w.Flight) || full.Mates[3].Clock != 1000000 {
		t.Error(len(full.Flight))
	}
	w.Flight = nil
	sent := checkDone(t, w, impl.MateEvent{Kind: impl.MateEvTick, Rates: []int{4, 4, 4, 4}}, noNote).Flight
	if len(sent) < 4+4*(40+1) {
		t.Error(len(sent))
	}
	w.Flight = filled(297)
	if got := checkDone(t, w, impl.MateEvent{Kind: impl.MateEvTick, Rates: []int{4, 4, 4, 4}}, noNote).Flight; !slices.Equal(got[297:], sent[:3]) {
		t.Errorf("%q", got[297:])
	}
	for at := range 4 {
		for _, e := range []impl.MateEvent{{Kind: impl.MateEvFall}, {Kind: impl.MateEvFall, B: 1}, {Kind: impl.MateEvRise}} {
			e.A = at
			checkWorldOk(t, "behind an event", checkDone(t, greatWorld(), e, noNote), true)
		}
	}
	inGoodTime(t, "a great one in as many rounds as may be", func() {
		w := greatWorld()
		for i := range w.Mates {
			w.Mates[i].Clock, w.Land.Places[i].Seen = 990000, 999999
			for j := range w.Mates[i].Asks {
				w.Mates[i].Asks[j].First, w.Mates[i].Asks[j].At = 9, 9
				w.Mates[i].Gives[j].First, w.Mates[i].Gives[j].At = 9, 9
			}
			for j := range w.Mates[i].Runs {
				w.Mates[i].Runs[j].Until = 990010
			}
		}
		checkWorldOk(t, "a great one", w, true)
		calm := impl.MateCalm(w, 1000, []int{4, 1, 4, 1})
		checkWorldOk(t, "a great one behind rounds", calm, true)
		if calm.Land.Time != 1002000 || !impl.MateSafe(calm) {
			t.Error(tellWorld(calm))
		}
	})
}

// worldWithRoom is a world whose lists have something behind their ends, in the same memory.
func worldWithRoom(w impl.MateWorld) impl.MateWorld {
	w.Land = landWithRoom(w.Land)
	w.Mates = append(slices.Clone(w.Mates), fullMate(), fullMate())[:len(w.Mates)]
	for i, m := range w.Mates {
		w.Mates[i] = mateWithRoom(m)
	}
	w.Flight = append(slices.Clone(w.Flight), "here a 3\n", "behind")[:len(w.Flight)]
	return w
}

// wholeWorld is a world with all that is behind the ends of its lists.
func wholeWorld(w impl.MateWorld) impl.MateWorld {
	n := len(w.Mates)
	w.Land, w.Mates, w.Flight = wholeLand(w.Land), nilIfEmpty(w.Mates[:cap(w.Mates)]), nilIfEmpty(w.Flight[:cap(w.Flight)])
	for i := range w.Mates[:n] {
		w.Mates[i] = wholeMate(w.Mates[i])
	}
	return w
}

func TestMateWorldMemory(t *testing.T) {
	t.Parallel()
	r := rand.New(rand.NewSource(92))
	for i := range 150 {
		w := randomWorld(r)
		if i < 3 {
			w = []impl.MateWorld{fullWorld(), greatWorld(), impl.MateNewWorld([]string{"a"})}[i]
		}
		if len(w.Flight) > 20 && i != 1 {
			w.Flight = w.Flight[:20]
		}
		w = worldWithRoom(w)
		if i%10 == 9 { // one that is not ok
			w.Land.Time++
		}
		events := eachEvent()
		if i > 2 {
			events = []impl.MateEvent{anyEvent(r, w)}
		}
		if i == 1 {
			events = events[:2]
		}
		for _, e := range events {
			e.Wants = append(slices.Clone(e.Wants), severalWants()[:2]...)[:len(e.Wants)]
			e.Rates = append(slices.Clone(e.Rates), 4, 4)[:len(e.Rates)]
			before, beforeEvent := wholeWorld(w), fmt.Sprint(e.Wants[:cap(e.Wants)], e.Rates[:cap(e.Rates)])
			arguments := []any{w, e}
			for _, answer := range []impl.MateWorld{impl.MateDo(w, e), impl.MateCalm(w, r.Intn(3), e.Rates)} {
				checkOwnMemory(t, arguments, []any{answer})
				checkOwnTexts(t, arguments, []any{answer})
			}
			impl.MateWorldOk(w)
			impl.MateSafe(w)
			impl.MateSettled(w)
			if !reflect.DeepEqual(wholeWorld(w), before) || fmt.Sprint(e.Wants[:cap(e.Wants)], e.Rates[:cap(e.Rates)]) != beforeEvent {
				t.Fatalf("the arguments were %+v, %s, and are %+v, %+v", before, beforeEvent, w, e)
			}
		}
	}
	names := []string{strings.Clone("a"), strings.Clone("b"), "behind"}[:2]
	w := impl.MateNewWorld(names)
	checkOwnMemory(t, []any{names}, []any{w})
	checkOwnTexts(t, []any{names}, []any{w})
	if !slices.Equal(names[:3], []string{"a", "b", "behind"}) {
		t.Errorf("%q", names[:3])
	}
}

// What is doubled is a text of its own, also behind what was in flight twice already.
func TestMateDoubledTexts(t *testing.T) {
	text := strings.Clone("a text of its own")
	w := impl.MateNewWorld([]string{"a"})
	w.Flight = []string{text, text, text}
	for kind := 0; kind <= impl.MateEvPut; kind++ {
		next := impl.MateDo(w, impl.MateEvent{Kind: kind})
		checkOwnTexts(t, []any{w}, []any{next})
	}
}

// What is written into an answer is not seen in another answer to the same.
func TestMateWorldAnswersAreTheirOwn(t *testing.T) {
	w := fullWorld()
	for _, e := range append(eachEvent(), impl.MateEvent{}) {
		first, second := impl.MateDo(w, e), impl.MateDo(w, e)
		before := plainWorld(first)
		for _, m := range second.Mates {
			clear(m.Wants[:cap(m.Wants)])
			clear(m.Runs[:cap(m.Runs)])
			clear(m.Asks[:cap(m.Asks)])
			clear(m.Gives[:cap(m.Gives)])
		}
		for _, p := range second.Land.Places {
			clear(p.Wants[:cap(p.Wants)])
		}
		clear(second.Land.Grants[:cap(second.Land.Grants)])
		clear(second.Land.Places[:cap(second.Land.Places)])
		clear(second.Mates[:cap(second.Mates)])
		clear(second.Flight[:cap(second.Flight)])
		if !sameWorld(first, before) || !sameWorld(w, fullWorld()) {
			t.Errorf("%+v: the answer or the argument has changed", e)
		}
	}
}

// An answer does not hang on how goroutines run: the same call gives the same, many times, and many at a time.
func TestMateWorldAnyScheduling(t *testing.T) {
	r := rand.New(rand.NewSource(93))
	for i := range 12 {
		w := randomWorld(r)
		if i == 0 {
			w = greatWorld()
			w.Flight = filled(250)
		}
		rates := anyEvent(r, w).Rates
		tick, calm := modelEvent(w, impl.MateEvent{Kind: impl.MateEvTick, Rates: rates}, noNote), modelCalm(w, 2, rates)
		var all sync.WaitGroup
		for range 8 {
			all.Go(func() {
				for range 10 {
					if !sameWorld(impl.MateDo(w, impl.MateEvent{Kind: impl.MateEvTick, Rates: rates}), tick) || !sameWorld(impl.MateCalm(w, 2, rates), calm) {
						t.Error("the same call gives another answer")
						return
					}
				}
			})
		}
		all.Wait()
	}
}

// What a tick starts has ended when it answers, also where the flight has no room for what is sent.
func TestMateWorldLeavesNothingBehind(t *testing.T) {
	before := runtime.NumGoroutine()
	for range 100 {
		w := fullWorld()
		impl.MateDo(w, impl.MateEvent{Kind: impl.MateEvTick})
		w.Flight = filled(300)
		impl.MateDo(w, impl.MateEvent{Kind: impl.MateEvTick})
		impl.MateCalm(w, 3, nil)
		w.Flight = filled(301)
		impl.MateDo(w, impl.MateEvent{Kind: impl.MateEvTick})
	}
	for range 100 {
		if runtime.NumGoroutine() <= before {
			return
		}
		time.Sleep(time.Millisecond)
	}
	t.Errorf("%d goroutines, and %d before", runtime.NumGoroutine(), before)
}

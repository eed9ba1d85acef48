package tests

import (
	"fmt"
	"math"
	"math/rand"
	"reflect"
	"slices"
	"testing"

	"loop.example/wharffleet/impl"
)

// A second reading of chapter 17, made another way than the program: one thing behind the other, by the second readings of the chapters ahead of it, and notes of what was met.

// modelWorldFaults are the conditions of an ok world that one does not meet.
func modelWorldFaults(w impl.MateWorld) []string {
	var faults, names []string
	fault := func(name string, is bool) {
		if is {
			faults = append(faults, name)
		}
	}
	fault("book", len(modelLandFaults(w.Land)) > 0)
	fault("mates", len(w.Mates) < 1 || len(w.Mates) > 4)
	for _, m := range w.Mates {
		names = append(names, m.Name)
		fault("mate", len(modelMateFaults(m)) > 0)
	}
	fault("mates' order", !slices.Equal(names, modelSet(names)))
	fault("flight", len(w.Flight) > 300)
	return faults
}

// plainWorld is a world in memory of its own, in which no list is empty but not nil.
func plainWorld(w impl.MateWorld) impl.MateWorld {
	w.Land, w.Mates, w.Flight = plainLand(w.Land), nilIfEmpty(w.Mates), nilIfEmpty(w.Flight)
	for i, m := range w.Mates {
		w.Mates[i] = plainMate(m)
	}
	return w
}

func modelNewWorld(names []string) impl.MateWorld {
	if len(names) < 1 || len(names) > 4 || !slices.Equal(names, modelSet(names)) {
		return impl.MateWorld{}
	}
	var w impl.MateWorld
	for _, name := range names {
		if !modelMateName.MatchString(name) {
			return impl.MateWorld{}
		}
		w.Mates = append(w.Mates, impl.Mate{Name: name, Up: true})
	}
	return w
}

func modelSend(w impl.MateWorld, sent []impl.MateParcel, note func(string)) impl.MateWorld {
	for _, p := range sent {
		switch {
		case len(modelMailFaults(p)) > 0:
			note("no form")
		case len(w.Flight) >= 300:
			note("no room")
		default:
			note(fmt.Sprint("sent ", p.Kind))
			w.Flight = append(w.Flight, modelForm(p))
		}
	}
	return w
}

func modelEvent(w impl.MateWorld, e impl.MateEvent, note func(string)) impl.MateWorld {
	if len(modelWorldFaults(w)) > 0 {
		note("not ok")
		return impl.MateWorld{}
	}
	w = plainWorld(w)
	isMate, flies := e.A >= 0 && e.A < len(w.Mates), e.A >= 0 && e.A < len(w.Flight)
	switch {
	case e.Kind == 1:
		return modelWorldTick(w, e.Rates, note)
	case e.Kind >= 2 && e.Kind <= 4 && !flies:
		note("not in flight")
	case e.Kind >= 5 && e.Kind <= 7 && !isMate:
		note("no mate")
	case e.Kind == 2:
		text := w.Flight[e.A]
		w.Flight = nilIfEmpty(slices.Delete(w.Flight, e.A, e.A+1))
		return modelBring(w, text, note)
	case e.Kind == 3:
		if len(w.Flight) == 300 {
			note("no room to double")
			break
		}
		note("doubled")
		w.Flight = append(w.Flight, w.Flight[e.A])
	case e.Kind == 4:
		note("lost")
		w.Flight = nilIfEmpty(slices.Delete(w.Flight, e.A, e.A+1))
	case e.Kind == 5:
		note(map[bool]string{true: "machine falls", false: "mate falls"}[e.B != 0])
		w.Mates[e.A] = modelFall(w.Mates[e.A], e.B != 0)
	case e.Kind == 6:
		note("rises")
		w.Mates[e.A] = modelRise(w.Mates[e.A])
	case e.Kind == 7:
		next, code := modelPut(w.Land, w.Mates[e.A].Name, e.Wants)
		note(fmt.Sprint("put ", code))
		if code == 0 {
			w.Land = next
		}
	default:
		note("another kind")
	}
	return w
}

func modelWorldTick(w impl.MateWorld, rates []int, note func(string)) impl.MateWorld {
	var sent []impl.MateParcel
	w.Land, sent = modelLandTick(w.Land)
	for i := range w.Mates {
		rate := 2
		switch {
		case i >= len(rates):
			note("no rate for it")
		case rates[i] < 1 || rates[i] > 4:
			note("a rate that is none")
		default:
			rate = rates[i]
		}
		var more []impl.MateParcel
		w.Mates[i], more = modelTick(w.Mates[i], rate, noNote)
		sent = append(sent, more...)
	}
	return modelSend(w, sent, note)
}

func modelBring(w impl.MateWorld, text string, note func(string)) impl.MateWorld {
	p, ok := modelMailRead(text)
	if !ok {
		note("not read")
		return w
	}
	note(fmt.Sprint("brought ", p.Kind))
	if p.Kind == 2 || p.Kind == 4 || p.Kind == 6 {
		var sent []impl.MateParcel
		w.Land, sent = modelLandTake(w.Land, p, noNote)
		return modelSend(w, sent, note)
	}
	for i, m := range w.Mates {
		if m.Name == p.Berth {
			w.Mates[i] = modelTake(m, p, noNote)
			return w
		}
	}
	note("to no mate")
	return w
}

func modelCalm(w impl.MateWorld, rounds int, rates []int) impl.MateWorld {
	if len(modelWorldFaults(w)) > 0 {
		return impl.MateWorld{}
	}
	w = plainWorld(w)
	for round := 0; round < rounds && round < 1000; round++ {
		w = modelEvent(w, impl.MateEvent{Kind: 1, Rates: rates}, noNote)
		for _, n := range []int{len(w.Flight), -1} {
			if n < 0 {
				n = len(w.Flight)
			}
			for ; n > 0; n-- {
				w = modelEvent(w, impl.MateEvent{Kind: 2}, noNote)
			}
		}
	}
	return w
}

func modelSafe(w impl.MateWorld) bool {
	if len(modelWorldFaults(w)) > 0 {
		return false
	}
	var held []string
	for _, m := range w.Mates {
		for _, run := range m.Runs {
			if modelAlive(run) && run.Want.Hold != "" {
				held = append(held, run.Want.Hold)
			}
		}
	}
	return len(modelSet(held)) == len(held)
}

func modelSettled(w impl.MateWorld) bool {
	if len(modelWorldFaults(w)) > 0 {
		return false
	}
	for _, m := range w.Mates {
		var wants, runs []impl.MateWant
		for _, p := range w.Land.Places {
			if p.Berth == m.Name {
				wants = nilIfEmpty(p.Wants)
			}
		}
		for _, run := range m.Runs {
			if run.State != 4 {
				return false
			}
			runs = append(runs, run.Want)
		}
		if !m.Up || fmt.Sprint(wants) != fmt.Sprint(runs) {
			return false
		}
	}
	return true
}

func checkWorldOk(t *testing.T, what string, w impl.MateWorld, want bool) {
	t.Helper()
	if got := impl.MateWorldOk(w); got != want {
		t.Errorf("%s: MateWorldOk is %v: %+v", what, got, w)
	}
	if got := modelWorldFaults(w); (len(got) == 0) != want {
		t.Errorf("%s: the second reading finds %q: %+v", what, got, w)
	}
}

func sameWorld(a, b impl.MateWorld) bool { return reflect.DeepEqual(plainWorld(a), plainWorld(b)) }

// checkDone holds MateDo against the second reading, and tells what it answered; MateSafe and MateSettled are asked of it, too.
func checkDone(t *testing.T, w impl.MateWorld, e impl.MateEvent, note func(string)) impl.MateWorld {
	t.Helper()
	want, got := modelEvent(w, e, note), impl.MateDo(w, e)
	if !sameWorld(got, want) {
		t.Fatalf("MateDo(%+v, %+v)\nis %+v\nnot %+v", w, e, got, want)
	}
	checkAsked(t, got)
	return got
}

func checkAsked(t *testing.T, w impl.MateWorld) {
	t.Helper()
	if got, want := impl.MateSafe(w), modelSafe(w); got != want {
		t.Fatalf("MateSafe is %v: %+v", got, w)
	}
	if got, want := impl.MateSettled(w), modelSettled(w); got != want {
		t.Fatalf("MateSettled is %v: %+v", got, w)
	}
}

func checkCalm(t *testing.T, w impl.MateWorld, rounds int, rates ...int) impl.MateWorld {
	t.Helper()
	want, got := modelCalm(w, rounds, rates), impl.MateCalm(w, rounds, rates)
	if !sameWorld(got, want) {
		t.Fatalf("MateCalm(%+v, %d, %v)\nis %+v\nnot %+v", w, rounds, rates, got, want)
	}
	checkAsked(t, got)
	return got
}

// randomText is a text in flight: mostly a form that tells one of this world something, and at times no form at all.
func randomText(r *rand.Rand, w impl.MateWorld) string {
	switch r.Intn(12) {
	case 0:
		return pickOf(r, "", "nothing", "\n", "told a\n", "asked a h0 b 01\n", "here a 0", "\xff\x00")
	case 1:
		return impl.MateForm(randomMail(r))
	case 2:
		return impl.MateForm(impl.MateParcel{Kind: impl.MateHere, Berth: pickOf(r, "a", "z"), Seen: r.Intn(3)})
	case 3, 4, 5, 6:
		p := randomWord(r, w.Land)
		p.Seen, p.Wants = 0, nil
		return impl.MateForm(p)
	}
	m := pickOf(r, w.Mates...)
	p := randomParcel(r, m)
	switch p.Kind {
	case impl.MateTold:
		p = impl.MateParcel{Kind: p.Kind, Berth: m.Name, Seen: m.Seen + 1, Wants: fewWants(r, 10)}
	case impl.MateGotBack:
		p = impl.MateParcel{Kind: p.Kind, Berth: p.Berth, Hold: p.Hold, At: p.At}
	default:
		p.Seen, p.Wants = 0, nil
	}
	if r.Intn(6) == 0 {
		p.Berth = pickOf(r, "z", "A", "b")
	}
	return impl.MateForm(p)
}

// randomWorld is ok: any mates and any book, which need not have led to one another, and at times as many texts as may be.
func randomWorld(r *rand.Rand) impl.MateWorld {
	w := impl.MateWorld{Land: randomLand(r)}
	for _, name := range []string{"a", "b", "c", "d"}[:1+r.Intn(4)] {
		m := randomMate(r)
		m.Name = name
		w.Mates = append(w.Mates, m)
	}
	if r.Intn(8) == 0 { // at rest, or nearly so
		w = restingWorld(r, w)
	}
	for range pickOf(r, 0, 1, 2, 3, 5, 20) {
		w.Flight = append(w.Flight, randomText(r, w))
	}
	if r.Intn(8) == 0 {
		for n := pickOf(r, 270, 295, 298, 299, 300); len(w.Flight) < n; {
			w.Flight = append(w.Flight, pickOf(r, "full\n", "here b 7\n", "", randomText(r, w)))
		}
	}
	return w
}

// restingWorld has the runs of its mates from the book, all ready; at times one thing of it is not so.
func restingWorld(r *rand.Rand, w impl.MateWorld) impl.MateWorld {
	for i, m := range w.Mates {
		next := impl.Mate{Name: m.Name, Up: true, Clock: 50}
		for _, p := range w.Land.Places {
			for _, want := range p.Wants {
				if p.Berth != m.Name {
					continue
				}
				run := impl.MateRun{Want: want, State: impl.MateReady, Left: want.Dies, Falls: r.Intn(3)}
				if want.Hold != "" {
					run.Until = 60
				}
				next.Runs = append(next.Runs, run)
			}
		}
		w.Mates[i] = next
	}
	m := &w.Mates[r.Intn(len(w.Mates))]
	switch r.Intn(8) {
	case 0:
		m.Up = false
	case 1:
		m.Runs = append(m.Runs, impl.MateRun{Want: wantOf("z", ""), State: impl.MateReady})
	case 2:
		m.Runs = m.Runs[:len(m.Runs)/2]
	case 3:
		if len(m.Runs) > 0 {
			m.Runs[0].State = pickOf(r, impl.MateStarting, impl.MateStopping, impl.MatePulling, impl.MateBackoff)
		}
	case 4:
		if len(m.Runs) > 0 {
			m.Runs[len(m.Runs)-1].Want.Version++
		}
	}
	return w
}

// anyEvent is of any kind, mostly one by which something happens.
func anyEvent(r *rand.Rand, w impl.MateWorld) impl.MateEvent {
	e := impl.MateEvent{Kind: 1 + r.Intn(7), B: pickOf(r, 0, 0, 1, -1, math.MinInt)}
	if r.Intn(20) == 0 {
		e.Kind = pickOf(r, 0, 8, -1, math.MinInt, math.MaxInt)
	}
	n := len(w.Mates)
	if e.Kind >= 2 && e.Kind <= 4 {
		n = len(w.Flight)
	}
	e.A = r.Intn(max(1, n))
	if r.Intn(10) == 0 {
		e.A = pickOf(r, -1, n, n-1, n+1, math.MinInt, math.MaxInt)
	}
	for range r.Intn(7) {
		e.Rates = append(e.Rates, pickOf(r, 1, 2, 3, 4, 4, 0, 5, -1, math.MinInt, math.MaxInt))
	}
	e.Wants = fewWants(r, 10)
	switch r.Intn(3) {
	case 0:
		e.Wants = randomWants(r)
	case 1:
		for i := range e.Wants {
			e.Wants[i].Hold = ""
		}
	}
	return e
}

func TestMateDoAsRead(t *testing.T) {
	t.Parallel()
	r := rand.New(rand.NewSource(82))
	met := map[string]int{}
	note := func(what string) { met[what]++ }
	safe, settled := 0, 0
	for range 4000 {
		w := randomWorld(r)
		checkWorldOk(t, "a random one", w, true)
		checkAsked(t, w)
		if impl.MateSafe(w) {
			safe++
		}
		if impl.MateSettled(w) {
			settled++
		}
		next := checkDone(t, w, anyEvent(r, w), note)
		checkWorldOk(t, "behind an event", next, true)
	}
	if safe < 400 || safe > 3600 || settled < 80 {
		t.Errorf("the worlds tell too little: %d are safe, %d are settled", safe, settled)
	}
	for _, what := range []string{"no room", "sent 1", "sent 2", "sent 3", "sent 4", "sent 5", "sent 6", "not in flight", "no mate", "no room to double", "doubled", "lost", "machine falls", "mate falls", "rises", "put 0", "put 2", "put 3", "another kind", "no rate for it", "a rate that is none", "not read", "brought 1", "brought 2", "brought 3", "brought 4", "brought 5", "brought 6", "to no mate"} {
		if met[what] < 6 {
			t.Errorf("the events tell too little of %q: %v", what, met)
		}
	}
	if met["no form"] > 0 {
		t.Errorf("what was sent had no form: %v", met)
	}
}

// Worlds of any kind in a few calm rounds, with any rates.
func TestMateCalmAsRead(t *testing.T) {
	t.Parallel()
	r := rand.New(rand.NewSource(83))
	changed := 0
	for range 300 {
		w := randomWorld(r)
		next := checkCalm(t, w, pickOf(r, -1, 0, 1, 1, 2, 3, 5), anyEvent(r, w).Rates...)
		checkWorldOk(t, "behind calm rounds", next, true)
		if !sameWorld(next, w) {
			changed++
		}
	}
	if changed < 150 {
		t.Errorf("the rounds tell too little: %d", changed)
	}
}

// Worlds that live on from a new one: each event goes on from what the one before has left.
func TestMateWorldLifeAsRead(t *testing.T) {
	t.Parallel()
	r := rand.New(rand.NewSource(84))
	met := map[string]int{}
	note := func(what string) { met[what]++ }
	for range 25 {
		w := impl.MateNewWorld([]string{"a", "b", "c"}[:1+r.Intn(3)])
		for range 250 {
			w = checkDone(t, w, livelyEvent(r, w), note)
		}
		checkWorldOk(t, "in its life", w, true)
	}
	for _, what := range []string{"sent 1", "sent 2", "sent 3", "sent 4", "sent 5", "sent 6", "doubled", "lost", "machine falls", "mate falls", "rises", "put 0", "put 3", "brought 1", "brought 2", "brought 3", "brought 4", "brought 5", "brought 6"} {
		if met[what] < 10 {
			t.Errorf("the lives tell too little of %q: %v", what, met)
		}
	}
}

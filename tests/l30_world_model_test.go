package tests

import (
	"fmt"
	"math"
	"math/rand"
	"slices"
	"strings"
	"testing"

	"loop.example/wharffleet/impl"
)

// A second reading of chapter 30, made another way than the program: one thing behind the other, by the second readings of the chapters ahead of it, each time a fleet written anew, and notes of what was met.

func modelNewWharf(berths []impl.PilotBerth) impl.FleetWorld {
	w := impl.FleetWorld{Berths: berths}
	var names []string
	for _, b := range berths {
		names = append(names, b.Name)
	}
	w.Mates = modelNewWorld(names)
	for _, m := range w.Mates.Mates {
		w.Stew.Berths = append(w.Stew.Berths, impl.StewBerth{Name: m.Name})
		w.Heard = append(w.Heard, impl.FleetHeard{Berth: m.Name})
	}
	if len(modelWharfFaults(w)) > 0 {
		return impl.FleetWorld{}
	}
	return plainWharf(w)
}

func modelWharfDo(w impl.FleetWorld, e impl.FleetEvent, note func(string)) impl.FleetWorld {
	if len(modelWharfFaults(w)) > 0 {
		note("not valid")
		return impl.FleetWorld{}
	}
	w = plainWharf(w)
	mates := func(kind int) impl.FleetWorld {
		w.Mates = modelEvent(w.Mates, impl.MateEvent{Kind: kind, A: e.A, B: e.B, Rates: e.Rates}, note)
		return w
	}
	switch e.Kind {
	case 1:
		return modelReported(mates(1), note)
	case 2:
		return mates(2)
	case 3: // to lose is 4 of chapter 17, and to double 3
		return mates(4)
	case 4:
		return mates(3)
	case 5, 6:
		return modelListened(w, e, note)
	case 7:
		return mates(5)
	case 8:
		return mates(6)
	case 9:
		return modelWharfWished(w, e, note)
	case 10:
		return modelDrained(w, e, note)
	case 11:
		return modelStewarded(w, e.A, note)
	case 12:
		return modelTold(modelPlaced(modelSwept(w, note), note), note)
	}
	note("no such kind")
	return w
}

func modelReported(w impl.FleetWorld, note func(string)) impl.FleetWorld {
	for _, m := range w.Mates.Mates {
		switch {
		case !m.Up:
			note("no report of one that is down")
		case len(w.Reports) > 59:
			note("no room for a report")
		default:
			note("a report")
			w.Reports = append(w.Reports, modelReportOf(m))
		}
	}
	return w
}

func modelListened(w impl.FleetWorld, e impl.FleetEvent, note func(string)) impl.FleetWorld {
	var left, out []impl.FleetReport
	for i, r := range w.Reports {
		if i == e.A {
			out = append(out, r)
		} else {
			left = append(left, r)
		}
	}
	w.Reports = left
	switch {
	case len(out) == 0:
		note("no such report")
	case e.Kind == 5:
		note("listened")
		return modelHeard(w, out[0], note)
	default:
		note("missed")
	}
	return w
}

func modelWharfWished(w impl.FleetWorld, e impl.FleetEvent, note func(string)) impl.FleetWorld {
	next := plainWharf(w)
	book, code := modelSea(w.Stew, impl.StewEvent{Kind: 2, Service: e.Wish})
	next.Stew = book
	kinds := map[string]impl.FleetKind{e.Wish.Name: e.Needs}
	for _, k := range w.Kinds {
		kinds[k.Service] = k
	}
	next.Kinds = nil
	for _, s := range book.Services {
		k := kinds[s.Name]
		k.Service = s.Name
		next.Kinds = append(next.Kinds, k)
	}
	switch {
	case code != 0:
		note(fmt.Sprint("a wish with code ", code))
	case len(modelWharfFaults(next)) > 0:
		note("a wish that can't be: " + modelWharfFaults(next)[0])
	case len(next.Kinds) > len(w.Kinds):
		note("a new wish")
		return next
	default:
		note("another wish")
		return next
	}
	return w
}

func modelDrained(w impl.FleetWorld, e impl.FleetEvent, note func(string)) impl.FleetWorld {
	if e.A < 0 || e.A >= len(w.Berths) {
		note("no such berth")
		return w
	}
	code := 0
	w.Stew, code = modelSea(w.Stew, impl.StewEvent{Kind: 5, Name: w.Berths[e.A].Name, Flag: e.B != 0})
	note(fmt.Sprintf("drain %v with code %d", e.B != 0, code))
	return w
}

// modelStewarded is a fleet behind what a steward asks for, which asks for nothing if it is none.
func modelStewarded(w impl.FleetWorld, kind int, note func(string)) impl.FleetWorld {
	for _, a := range modelStewAsk(kind, w.Stew) {
		code := 0
		w.Stew, code = modelApply(w.Stew, a)
		w = modelTidy(w)
		note(fmt.Sprintf("steward %d, code %d", kind, code))
	}
	return w
}

// modelRoundOf is a round of events, as long as each finds what is there then: what it asks for is told event by event.
func modelRoundOf(w impl.FleetWorld, rates []int, do func(impl.FleetWorld, impl.FleetEvent) impl.FleetWorld) impl.FleetWorld {
	w = do(w, impl.FleetEvent{Kind: 1, Rates: rates})
	for n := len(w.Mates.Flight); n > 0; n-- {
		w = do(w, impl.FleetEvent{Kind: 2})
	}
	for n := len(w.Mates.Flight); n > 0; n-- {
		w = do(w, impl.FleetEvent{Kind: 2})
	}
	for n := len(w.Reports); n > 0; n-- {
		w = do(w, impl.FleetEvent{Kind: 5})
	}
	for _, steward := range []int{1, 2, 3, 4, 5, 6} {
		w = do(w, impl.FleetEvent{Kind: 11, A: steward})
	}
	return do(w, impl.FleetEvent{Kind: 12})
}

func modelWharfCalm(w impl.FleetWorld, rounds int, rates []int, note func(string)) impl.FleetWorld {
	if len(modelWharfFaults(w)) > 0 {
		note("not valid")
		return impl.FleetWorld{}
	}
	w = plainWharf(w)
	for round := 0; round < rounds && round < 20000; round++ {
		w = modelRoundOf(w, rates, func(w impl.FleetWorld, e impl.FleetEvent) impl.FleetWorld { return modelWharfDo(w, e, note) })
	}
	return w
}

// checkWharfDone holds FleetDo against the second reading, promise 33, and all that chapter 31 says of what it answered, and tells that.
func checkWharfDone(t *testing.T, what string, w impl.FleetWorld, e impl.FleetEvent, note func(string)) impl.FleetWorld {
	t.Helper()
	got, want := impl.FleetDo(w, e), modelWharfDo(w, e, note)
	if !sameWharf(got, want) {
		t.Fatalf("%s: FleetDo of %+v\nin %+v\nis %+v\nnot %+v", what, e, w, got, want)
	}
	if impl.FleetValid(got) != impl.FleetValid(w) {
		t.Fatalf("%s: promise 33: %q behind %+v", what, modelWharfFaults(got), e)
	}
	checkSettled(t, what, got)
	return got
}

func checkWharfCalm(t *testing.T, what string, w impl.FleetWorld, rounds int, rates []int, note func(string)) impl.FleetWorld {
	t.Helper()
	got, want := impl.FleetCalm(w, rounds, rates), modelWharfCalm(w, rounds, rates, note)
	if !sameWharf(got, want) {
		t.Fatalf("%s: FleetCalm of %d rounds with %v\nof %+v\nis %+v\nnot %+v", what, rounds, rates, w, got, want)
	}
	if impl.FleetValid(got) != impl.FleetValid(w) {
		t.Fatalf("%s: promise 33: %q behind %d rounds", what, modelWharfFaults(got), rounds)
	}
	checkSettled(t, what, got)
	return got
}

// withMail is a fleet with texts in flight, mostly such as tell one of its berths or its book something, grants in the book, and reports of its berths.
func withMail(r *rand.Rand, w impl.FleetWorld) impl.FleetWorld {
	w = plainWharf(w)
	for _, p := range w.Mates.Land.Places {
		for _, want := range p.Wants {
			if want.Hold != "" && r.Intn(2) == 0 {
				w.Mates.Land.Grants = append(w.Mates.Land.Grants, impl.MateGrant{Hold: want.Hold, Berth: pickOf(r, p.Berth, p.Berth, "z"), Copy: want.Copy, At: r.Intn(60), Until: w.Mates.Land.Time + pickOf(r, 0, 2, 32)})
			}
		}
	}
	slices.SortFunc(w.Mates.Land.Grants, func(a, b impl.MateGrant) int { return strings.Compare(a.Hold, b.Hold) })
	w.Mates.Flight = nil
	for range pickOf(r, 0, 1, 3, 6) {
		w.Mates.Flight = append(w.Mates.Flight, textFor(r, w))
	}
	if r.Intn(10) == 0 {
		w.Mates.Flight = append(w.Mates.Flight, filled(pickOf(r, 280, 298, 299, 300)-len(w.Mates.Flight))...)
	}
	w.Reports = nil
	for range pickOf(r, 0, 1, 2, 4) {
		if report := reportNear(r, w); len(modelFaultsOfReport(report)) == 0 {
			w.Reports = append(w.Reports, report)
		}
	}
	if r.Intn(8) == 0 {
		w.Reports = append(w.Reports, slices.Repeat([]impl.FleetReport{{Berth: "nowhere"}}, pickOf(r, 55, 57, 58, 59, 60)-len(w.Reports))...)
	}
	return w
}

// textFor is of a berth of the fleet: what its place says, or what is asked for, given or given back of what it wants; at times any text.
func textFor(r *rand.Rand, w impl.FleetWorld) string {
	places := w.Mates.Land.Places
	if len(places) == 0 || r.Intn(6) == 0 {
		return randomText(r, w.Mates)
	}
	p := pickOf(r, places...)
	if len(p.Wants) == 0 || r.Intn(3) == 0 {
		return impl.MateForm(impl.MateParcel{Kind: impl.MateTold, Berth: p.Berth, Seen: p.Seen, Wants: p.Wants})
	}
	want := pickOf(r, p.Wants...)
	return impl.MateForm(impl.MateParcel{Kind: pickOf(r, impl.MateAsked, impl.MateAsked, impl.MateGiven, impl.MateBack), Berth: p.Berth, Hold: want.Hold, Copy: want.Copy, At: r.Intn(60)})
}

// anyWish is of a service that is there or of a new one, and mostly such that it can be.
func anyWish(r *rand.Rand, w impl.FleetWorld) impl.FleetEvent {
	name := pickOf(r, "-", "a", "a-1", "db", "new", "web", "z", "eightlet")
	if len(w.Stew.Services) > 0 && r.Intn(2) == 0 {
		name = pickOf(r, w.Stew.Services...).Name
	}
	e := impl.FleetEvent{Kind: impl.FleetWish, Wish: randomService(r, name, 60)}
	e.Needs = impl.FleetKind{Service: pickOf(r, "", "web", "any"), Rank: r.Intn(4), Room: r.Intn(9), Hold: r.Intn(9), Select: pickOf(r, "", "ssd", "!ssd"), Apart: r.Intn(3), Volume: r.Intn(2) == 0, Pull: r.Intn(5), Start: r.Intn(5), Grace: r.Intn(5)}
	switch r.Intn(12) {
	case 0:
		e.Wish.Name = pickOf(r, "", "x_y", "ninelette", strings.Repeat("z", 20), strings.Repeat("z", 21))
	case 1:
		*pickOf(r, &e.Wish.Image, &e.Wish.Want, &e.Wish.Down, &e.Wish.Over, &e.Wish.Per, &e.Wish.Load) = pickOf(r, -1, 11, math.MinInt, math.MaxInt)
	case 2, 3:
		*pickOf(r, &e.Needs.Rank, &e.Needs.Room, &e.Needs.Hold, &e.Needs.Apart, &e.Needs.Pull, &e.Needs.Start, &e.Needs.Grace) = pickOf(r, -1, 1001, math.MinInt, math.MaxInt)
	case 4:
		e.Needs.Select = pickOf(r, "(", "a b", strings.Repeat("a", 201))
	}
	return e
}

// anyWharfEvent is of any kind, mostly one by which something happens; what its kind does not ask for is there all the same.
func anyWharfEvent(r *rand.Rand, w impl.FleetWorld) impl.FleetEvent {
	e := anyWish(r, w)
	e.Kind, e.B = 1+r.Intn(12), pickOf(r, 0, 0, 1, -1, math.MinInt)
	if r.Intn(25) == 0 {
		e.Kind = pickOf(r, 0, 13, -1, math.MinInt, math.MaxInt)
	}
	n := len(w.Berths)
	switch e.Kind {
	case impl.FleetBring, impl.FleetLose, impl.FleetDouble:
		n = len(w.Mates.Flight)
	case impl.FleetListen, impl.FleetMiss:
		n = len(w.Reports)
	case impl.FleetStewards:
		n = 7
	}
	e.A = r.Intn(max(1, n))
	if r.Intn(12) == 0 {
		e.A = pickOf(r, -1, n-1, n, n+1, math.MinInt, math.MaxInt)
	}
	e.Rates = anyRates(r)
	return e
}

func anyRates(r *rand.Rand) []int {
	var rates []int
	for range r.Intn(7) {
		rates = append(rates, pickOf(r, 1, 2, 3, 4, 4, 0, 5, -1, math.MinInt, math.MaxInt))
	}
	return rates
}

func TestFleetNewAsRead(t *testing.T) {
	t.Parallel()
	r := rand.New(rand.NewSource(303))
	met := map[bool]int{}
	for range 4000 {
		var berths []impl.PilotBerth
		for _, name := range someOf(r, []string{"-", "0", "a", "a-", "b", "c", "z"}, pickOf(r, 0, 1, 1, 2, 3, 4, 4, 5, 7)) {
			berths = append(berths, impl.PilotBerth{Name: name, Zone: pickOf(r, "east", "w_1"), Marks: pickOf(r, nil, []string{"ssd"}, []string{"color=red", "ssd"}), Room: pickOf(r, 0, 7, 1000), Hold: pickOf(r, 0, 7, 1000)})
		}
		if len(berths) > 0 && r.Intn(3) == 0 {
			b := &berths[r.Intn(len(berths))]
			switch r.Intn(4) {
			case 0:
				*pickOf(r, &b.Name, &b.Zone) = pickOf(r, "", "b", "x_y", "A", "a b", "\x7f", strings.Repeat("z", 20), strings.Repeat("z", 21))
			case 1:
				*pickOf(r, &b.Room, &b.Hold) = pickOf(r, -1, 1001, math.MinInt, math.MaxInt)
			case 2:
				b.Marks = pickOf(r, []string{""}, []string{"ssd", "ssd"}, []string{"b", "a"}, []string{"a=1", "a=2"}, slices.Repeat([]string{"a"}, 11))
			default:
				b.Closed = true
			}
		}
		got, want := impl.FleetNew(berths), modelNewWharf(berths)
		if !sameWharf(got, want) {
			t.Fatalf("FleetNew of %+v\nis %+v\nnot %+v", berths, got, want)
		}
		met[impl.FleetValid(got)]++
	}
	if met[true] < 1000 || met[false] < 1000 {
		t.Errorf("the berths tell too little: %v", met)
	}
}

func TestFleetDoAsRead(t *testing.T) {
	t.Parallel()
	r := rand.New(rand.NewSource(304))
	met := map[string]int{}
	note := func(what string) { met[what]++ }
	for i := range 6000 {
		w := withMail(r, randomWharf(r))
		e := anyWharfEvent(r, w)
		switch {
		case i%30 == 0:
			breakWharf(r, &w)
		case e.Kind == impl.FleetStewards && e.A == impl.StewDrainer: // it waits until no copy is old
			w = withDrained(r, w)
		}
		checkWharfDone(t, "a random one", w, e, note)
	}
	for _, what := range []string{
		"not valid", "no such kind", "a report", "no report of one that is down", "no room for a report", "no rate for it", "a rate that is none", "no room", "sent 1", "sent 6",
		"not in flight", "not read", "brought 1", "brought 2", "brought 3", "brought 4", "sent 3", "lost", "doubled", "no room to double",
		"no such report", "listened", "missed", "of another berth", "gone", "from 2 to 3", "from 3 to 2", "no mate", "machine falls", "mate falls", "rises",
		"a new wish", "another wish", "a wish with code 2", "a wish with code 7", "a wish that can't be: kind's name", "a wish that can't be: kind's select", "a wish that can't be: kind's apart",
		"no such berth", "drain true with code 0", "drain false with code 0", "drain true with code 7",
		"steward 1, code 0", "steward 2, code 0", "steward 3, code 0", "steward 4, code 0", "steward 5, code 0", "steward 6, code 0", "steward 1, code 7",
		"gone 1", "gone 3", "placed 1", "placed 3", "goes: code 0", "comes: code 0",
	} {
		if met[what] < 4 {
			t.Errorf("the events tell too little of %q: %v", what, met)
		}
	}
}

// withDrained is a fleet with copies of one image, some of them on a berth that is to be drained.
func withDrained(r *rand.Rand, w impl.FleetWorld) impl.FleetWorld {
	for i := range w.Stew.Copies {
		w.Stew.Copies[i].Image = 1
	}
	for i := range w.Stew.Services {
		w.Stew.Services[i].Image, w.Stew.Services[i].Want = 1, r.Intn(3)
	}
	w.Stew.Berths[0].Drain = true
	return w
}

// Fleets of any kind in a few calm rounds, with any rates.
func TestFleetCalmAsRead(t *testing.T) {
	t.Parallel()
	r := rand.New(rand.NewSource(305))
	met := map[string]int{}
	note := func(what string) { met[what]++ }
	for i := range 150 {
		w := withMail(r, randomWharf(r))
		for len(w.Stew.Copies) > 40 || len(w.Mates.Flight) > 10 && i%10 > 0 {
			w = withMail(r, randomWharf(r))
		}
		if i%30 == 0 {
			breakWharf(r, &w)
		}
		checkWharfCalm(t, "a random one", w, pickOf(r, -1, 0, 1, 1, 2, 3), anyRates(r), note)
	}
	for _, what := range []string{"a report", "no report of one that is down", "no room for a report", "brought 1", "brought 2", "brought 3", "listened", "from 2 to 3", "from 3 to 2", "gone 1", "placed 1", "steward 1, code 0", "steward 2, code 0", "steward 4, code 0", "steward 5, code 0", "comes: code 0"} {
		if met[what] < 4 {
			t.Errorf("the rounds tell too little of %q: %v", what, met)
		}
	}
}

// Fleets that live on from a new one: each event goes on from what the one before has left, and at times a calm round.
func TestFleetLifeAsRead(t *testing.T) {
	t.Parallel()
	r := rand.New(rand.NewSource(306))
	met := map[string]int{}
	note := func(what string) { met[what]++ }
	for range 12 {
		x := newWharfTale(t, r, map[string]int{})
		x.wide = true
		x.live(pickOf(r, 0, 3, 20))
		w := x.w
		for i := range 80 {
			e := anyWharfEvent(r, w)
			if e.Kind == impl.FleetWish || e.Kind == impl.FleetTick && len(w.Mates.Flight) > 20 {
				e.Kind = impl.FleetBring
			}
			w = checkWharfDone(t, "in its life", w, e, note)
			if i%20 == 19 {
				w = checkWharfCalm(t, "in its life", w, 2, e.Rates, note)
			}
		}
	}
	for _, what := range []string{"a report", "sent 1", "sent 2", "sent 3", "brought 1", "brought 2", "brought 3", "lost", "doubled", "listened", "missed", "from 2 to 3", "machine falls", "mate falls", "rises", "drain true with code 0", "drain false with code 0", "steward 1, code 0", "placed 1", "goes: code 0", "comes: code 0"} {
		if met[what] < 4 {
			t.Errorf("the lives tell too little of %q: %v", what, met)
		}
	}
}

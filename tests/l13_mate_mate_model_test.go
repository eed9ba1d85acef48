package tests

import (
	"fmt"
	"math"
	"math/rand"
	"reflect"
	"slices"
	"strings"
	"testing"

	"loop.example/wharffleet/impl"
)

// A second reading of chapters 13 and 14, made another way than the program: lists that are searched from end to end, and notes of what was met.

// modelMateFaults are the conditions of a valid mate that one does not meet.
func modelMateFaults(m impl.Mate) []string {
	var faults []string
	fault := func(name string, is bool) {
		if is {
			faults = append(faults, name)
		}
	}
	fault("name", !modelMateName.MatchString(m.Name))
	fault("clock", m.Clock < 0 || m.Clock > 1000000)
	fault("seen", m.Seen < 0 || m.Seen > 1000000)
	fault("wants", !modelWantsOk(m.Wants))
	fault("wants unheard", !m.Known && len(m.Wants) != 0)
	fault("runs", !modelRunsOk(m.Runs, m.Clock))
	fault("asks", !modelAsksOk(m.Asks, m.Clock))
	fault("gives", !modelAsksOk(m.Gives, m.Clock))
	fault("both", slices.ContainsFunc(m.Asks, func(a impl.MateAsk) bool { return modelAskFor(m.Gives, a.Hold) >= 0 }))
	if m.Up {
		return faults
	}
	fault("down known", m.Known)
	fault("down seen", m.Seen != 0)
	fault("down wants", m.Wants != nil && len(m.Wants) != 0)
	fault("down asks", len(m.Asks) != 0)
	fault("down gives", len(m.Gives) != 0)
	fault("down runs", slices.ContainsFunc(m.Runs, func(r impl.MateRun) bool { return !modelAlive(r) && r.Want.Hold == "" }))
	return faults
}

func modelAsksOk(list []impl.MateAsk, clock int) bool {
	var holds []string
	for _, a := range list {
		holds = append(holds, a.Hold)
		switch {
		case !modelMateName.MatchString(a.Hold), a.Hold == "*", !modelMateName.MatchString(a.Copy),
			a.First < 0, a.First > a.At, a.At < 0, a.At > clock:
			return false
		}
	}
	return len(list) <= 40 && slices.Equal(holds, modelSet(holds))
}

// modelAskFor is the place of the one for a hold, or below 0.
func modelAskFor(list []impl.MateAsk, hold string) int {
	return slices.IndexFunc(list, func(a impl.MateAsk) bool { return a.Hold == hold })
}

func modelWantFor(list []impl.MateWant, copy string) (impl.MateWant, bool) {
	for _, w := range list {
		if w.Copy == copy {
			return w, true
		}
	}
	return impl.MateWant{}, false
}

// plainMate is a mate in memory of its own, in which no list is empty but not nil.
func plainMate(m impl.Mate) impl.Mate {
	m.Wants, m.Runs, m.Asks, m.Gives = nilIfEmpty(m.Wants), nilIfEmpty(m.Runs), nilIfEmpty(m.Asks), nilIfEmpty(m.Gives)
	return m
}

func modelTick(m impl.Mate, rate int, note func(string)) (impl.Mate, []impl.MateParcel) {
	if len(modelMateFaults(m)) > 0 {
		note("not valid")
		return impl.Mate{}, nil
	}
	m = plainMate(m)
	if !slices.Contains([]int{1, 2, 3, 4}, rate) {
		note("no rate")
		return m, nil
	}
	if 1000000-rate < m.Clock {
		note("the end")
		m = modelFall(m, true)
		m.Clock = 1000000
		return m, nil
	}
	m.Clock += rate
	watched := nilIfEmpty(modelWatchdog(m.Runs, m.Clock))
	if !reflect.DeepEqual(watched, m.Runs) {
		note("killed")
	}
	m.Runs = watched
	if !m.Up {
		note("down")
		return m, nil
	}
	if m.Known {
		m = modelKnown(m, note)
	} else {
		note("not known")
	}
	var sent []impl.MateParcel
	m.Asks, sent = modelAsks(m, note)
	for _, g := range m.Gives {
		sent = append(sent, impl.MateParcel{Kind: 4, Berth: m.Name, Hold: g.Hold, Copy: g.Copy, At: g.At})
	}
	return m, append(sent, impl.MateParcel{Kind: 6, Berth: m.Name, Seen: m.Seen})
}

func modelKnown(m impl.Mate, note func(string)) impl.Mate {
	var runs []impl.MateRun
	for _, r := range m.Runs {
		w, wanted := modelWantFor(m.Wants, r.Want.Copy)
		next, rule := modelLife(r, w, wanted, m.Clock)
		if rule != "gone" {
			runs = append(runs, next)
			continue
		}
		at := modelAskFor(m.Asks, r.Want.Hold)
		switch {
		case r.Want.Hold == "":
			note("gone without a hold")
		case at < 0:
			note("gone without an ask")
		case len(m.Gives) >= 40:
			note("forgotten")
		default:
			note("given back")
			m.Gives = append(m.Gives, m.Asks[at])
			slices.SortFunc(m.Gives, func(a, b impl.MateAsk) int { return strings.Compare(a.Hold, b.Hold) })
		}
		if at >= 0 && m.Asks[at].Copy != r.Want.Copy {
			note("gone with another's ask")
		}
		if at >= 0 {
			m.Asks = nilIfEmpty(slices.Delete(m.Asks, at, at+1))
		}
	}
	for _, w := range m.Wants {
		if slices.ContainsFunc(runs, func(r impl.MateRun) bool { return r.Want.Copy == w.Copy }) {
			continue
		}
		if len(runs) >= 20 {
			note("no room to run")
			continue
		}
		note("pulled")
		runs = append(runs, impl.MateRun{Want: w, State: 1, Left: w.Pull})
	}
	slices.SortFunc(runs, func(a, b impl.MateRun) int { return strings.Compare(a.Want.Copy, b.Want.Copy) })
	m.Runs = runs
	return m
}

func modelAsks(m impl.Mate, note func(string)) ([]impl.MateAsk, []impl.MateParcel) {
	asks := m.Asks
	var sent []impl.MateParcel
	for _, r := range m.Runs {
		w, wanted := modelWantFor(m.Wants, r.Want.Copy)
		if r.Want.Hold == "" || !wanted || fmt.Sprint(w) != fmt.Sprint(r.Want) {
			continue
		}
		if modelAskFor(m.Gives, r.Want.Hold) >= 0 {
			note("not asked while given back")
			continue
		}
		now := impl.MateAsk{Hold: r.Want.Hold, Copy: r.Want.Copy, First: m.Clock, At: m.Clock}
		at := modelAskFor(asks, r.Want.Hold)
		switch {
		case at < 0 && len(asks) >= 40:
			note("no room to ask")
			continue
		case at < 0:
			note("asked")
			asks = append(asks, now)
			slices.SortFunc(asks, func(a, b impl.MateAsk) int { return strings.Compare(a.Hold, b.Hold) })
		case asks[at].Copy != r.Want.Copy:
			note("asked for another copy")
			asks[at] = now
		case m.Clock-asks[at].At >= 6:
			note("renewed")
			asks[at].At = m.Clock
		default:
			note("not asked yet")
			continue
		}
		sent = append(sent, impl.MateParcel{Kind: 2, Berth: m.Name, Hold: r.Want.Hold, Copy: r.Want.Copy, At: m.Clock})
	}
	return asks, sent
}

func modelTake(m impl.Mate, p impl.MateParcel, note func(string)) impl.Mate {
	if len(modelMateFaults(m)) > 0 {
		note("not valid")
		return impl.Mate{}
	}
	m = plainMate(m)
	switch {
	case !m.Up:
		note("taken by none")
	case p.Berth != m.Name:
		note("for another berth")
	case p.Kind == 1:
		if p.Seen >= 1 && p.Seen <= 1000000 && modelWantsOk(p.Wants) && (!m.Known || p.Seen > m.Seen) {
			note("told")
			m.Known, m.Seen, m.Wants = true, p.Seen, nilIfEmpty(p.Wants)
		} else {
			note("not told")
		}
	case p.Kind == 3:
		modelGiven(m, p, note)
	case p.Kind == 5:
		note("not back")
		for i, g := range m.Gives {
			if g.Hold == p.Hold && g.At == p.At {
				note("got back")
				m.Gives = nilIfEmpty(slices.Delete(m.Gives, i, i+1))
				break
			}
		}
	default:
		note("another kind")
	}
	return m
}

func modelGiven(m impl.Mate, p impl.MateParcel, note func(string)) {
	for _, a := range m.Asks {
		if a.Hold != p.Hold || a.Copy != p.Copy {
			continue
		}
		if p.At < a.First || p.At > a.At {
			note("given for another ask")
			continue
		}
		for i := range m.Runs {
			r := &m.Runs[i]
			if r.Want.Hold != p.Hold || r.Want.Copy != p.Copy {
				continue
			}
			if r.Until >= p.At+16 {
				note("given for shorter")
				continue
			}
			note("given")
			r.Until = p.At + 16
		}
	}
}

func modelFall(m impl.Mate, machine bool) impl.Mate {
	if len(modelMateFaults(m)) > 0 {
		return impl.Mate{}
	}
	fallen := impl.Mate{Name: m.Name, Clock: m.Clock}
	for _, r := range m.Runs {
		switch {
		case modelAlive(r) && !machine:
			fallen.Runs = append(fallen.Runs, r)
		case modelAlive(r) && r.Want.Hold != "":
			fallen.Runs = append(fallen.Runs, impl.MateRun{Want: r.Want, State: 2, Falls: r.Falls, Until: r.Until})
		}
	}
	return fallen
}

func modelRise(m impl.Mate) impl.Mate {
	if len(modelMateFaults(m)) > 0 {
		return impl.Mate{}
	}
	if m = plainMate(m); m.Clock != 1000000 {
		m.Up = true
	}
	return m
}

func noNote(string) {}

func sameParcels(a, b []impl.MateParcel) bool {
	return slices.EqualFunc(a, b, func(p, q impl.MateParcel) bool {
		p.Wants, q.Wants = nilIfEmpty(p.Wants), nilIfEmpty(q.Wants)
		return reflect.DeepEqual(p, q)
	})
}

// checkMateTick holds a tick against the second reading, and tells what it answered.
func checkMateTick(t *testing.T, m impl.Mate, rate int, note func(string)) (impl.Mate, []impl.MateParcel) {
	t.Helper()
	want, wantSent := modelTick(m, rate, note)
	got, sent := impl.MateTick(m, rate)
	if !reflect.DeepEqual(plainMate(got), want) || !sameParcels(sent, wantSent) {
		t.Fatalf("MateTick(%+v, %d)\nis %+v\n%+v\nnot %+v\n%+v", m, rate, got, sent, want, wantSent)
	}
	return got, sent
}

func checkMateTake(t *testing.T, m impl.Mate, p impl.MateParcel, note func(string)) impl.Mate {
	t.Helper()
	want, got := modelTake(m, p, note), impl.MateTake(m, p)
	if !reflect.DeepEqual(plainMate(got), want) {
		t.Fatalf("MateTake(%+v, %+v)\nis %+v\nnot %+v", m, p, got, want)
	}
	return got
}

func checkMateFall(t *testing.T, m impl.Mate, machine bool) impl.Mate {
	t.Helper()
	want, got := modelFall(m, machine), impl.MateFall(m, machine)
	if !reflect.DeepEqual(plainMate(got), want) {
		t.Fatalf("MateFall(%+v, %v)\nis %+v\nnot %+v", m, machine, got, want)
	}
	return got
}

func checkMateRise(t *testing.T, m impl.Mate) impl.Mate {
	t.Helper()
	want, got := modelRise(m), impl.MateRise(m)
	if !reflect.DeepEqual(plainMate(got), want) {
		t.Fatalf("MateRise(%+v)\nis %+v\nnot %+v", m, got, want)
	}
	return got
}

func checkMateValid(t *testing.T, what string, m impl.Mate, want bool) {
	t.Helper()
	if got := impl.MateValid(m); got != want {
		t.Errorf("%s: MateValid is %v: %+v", what, got, m)
	}
	if got := modelMateFaults(m); (len(got) == 0) != want {
		t.Errorf("%s: the second reading finds %q: %+v", what, got, m)
	}
}

// fewWants are ok; copies and holds are so few that much meets much.
func fewWants(r *rand.Rand, most int) []impl.MateWant {
	var list []impl.MateWant
	holds := r.Perm(9)
	for i, copy := range []string{"a", "b", "c", "d", "e", "f", "g", "h", "i", "j"} {
		if len(list) == most || r.Intn(3) == 0 {
			continue
		}
		w := impl.MateWant{Copy: copy, Version: 1 + r.Intn(2), Pull: r.Intn(4), Start: r.Intn(3), Dies: pickOf(r, 0, 0, 1, 4), Grace: r.Intn(4)}
		if i < len(holds) && holds[i] < 6 {
			w.Hold = fmt.Sprint("h", holds[i])
		}
		list = append(list, w)
	}
	return list
}

// runsNear are ok at the clock: mostly of these wants, some of others, and at times as many as may be.
func runsNear(r *rand.Rand, wants []impl.MateWant, clock int) []impl.MateRun {
	var list []impl.MateRun
	pool := nilIfEmpty(wants)
	if r.Intn(3) > 0 {
		for _, w := range fewWants(r, 10) {
			if _, there := modelWantFor(wants, w.Copy); !there {
				pool = append(pool, w)
			}
		}
	}
	full := r.Intn(10) == 0
	if full { // all of them live on
		pool = pool[:r.Intn(len(pool)+1)]
		for i := len(pool); i < pickOf(r, 19, 20, 20); i++ {
			pool = append(pool, impl.MateWant{Copy: fmt.Sprintf("k%02d", i), Version: 1, Hold: pickOf(r, "", "h1", fmt.Sprint("k", i)), Grace: r.Intn(3)})
		}
	}
	for _, w := range pool {
		if r.Intn(5) == 0 && !full {
			continue
		}
		if r.Intn(6) == 0 {
			w.Version = 3 - w.Version
		}
		if r.Intn(12) == 0 {
			w.Hold = pickOf(r, "", "h0", "h1")
		}
		run := impl.MateRun{Want: w, State: 1 + r.Intn(6), Left: r.Intn(4), Falls: pickOf(r, 0, 1, 999, 1000)}
		if full && r.Intn(40) > 0 {
			run.State, run.Left = pickOf(r, impl.MateStarting, impl.MateReady, impl.MateStopping), 2+r.Intn(2)
		}
		if run.State == impl.MateWaiting {
			run.Left = 0
		}
		if w.Hold != "" {
			run.Until = max(0, clock+pickOf(r, -3, 3, 4, 5, 6, 7, 8, 12, 16))
		}
		if w.Hold != "" && modelAlive(run) {
			run.Until = max(run.Until, clock+4)
		}
		list = append(list, run)
	}
	slices.SortFunc(list, func(a, b impl.MateRun) int { return strings.Compare(a.Want.Copy, b.Want.Copy) })
	return list
}

// asksNear are in the past of the clock, mostly of the holds and copies of runs; some stand for each hold, at times so many that there is no room for more.
func asksNear(r *rand.Rand, runs []impl.MateRun, clock int) (asks, gives []impl.MateAsk) {
	ask := func(hold, copy string) impl.MateAsk {
		at := max(0, clock-pickOf(r, 0, 1, 2, 3, 4, 5, 6, 7, 20))
		return impl.MateAsk{Hold: hold, Copy: copy, First: max(0, at-pickOf(r, 0, 0, 1, 6, 12)), At: at}
	}
	list := []impl.MateAsk{}
	for _, run := range runs {
		if run.Want.Hold != "" && modelAskFor(list, run.Want.Hold) < 0 {
			list = append(list, ask(run.Want.Hold, pickOf(r, run.Want.Copy, run.Want.Copy, run.Want.Copy, "b")))
		}
	}
	for _, a := range list {
		switch r.Intn(6) {
		case 0, 1, 2:
			asks = append(asks, a)
		case 3:
			gives = append(gives, a)
		}
	}
	fill := func(list *[]impl.MateAsk, with string) {
		for i := range pickOf(r, 0, 0, 0, 0, 1, 2, 38, 39, 40) {
			if len(*list) < 40 {
				*list = append(*list, ask(fmt.Sprint(with, i), "z"))
			}
		}
		slices.SortFunc(*list, func(a, b impl.MateAsk) int { return strings.Compare(a.Hold, b.Hold) })
	}
	fill(&asks, pickOf(r, "a", "x"))
	fill(&gives, pickOf(r, "b", "y"))
	return asks, gives
}

// randomMate is valid.
func randomMate(r *rand.Rand) impl.Mate {
	clock := r.Intn(100)
	if r.Intn(8) == 0 {
		clock = 1000000 - r.Intn(8)
	}
	m := impl.Mate{Name: "a", Up: r.Intn(8) > 0, Clock: clock}
	if !m.Up {
		m.Runs = slices.DeleteFunc(runsNear(r, nil, clock), func(r impl.MateRun) bool { return !modelAlive(r) && r.Want.Hold == "" })
		return m
	}
	m.Known, m.Seen = r.Intn(8) > 0, pickOf(r, 0, 1, 2, 3, 3, 3, 999999, 1000000)
	if m.Known {
		m.Wants = fewWants(r, 10)
	}
	m.Runs = runsNear(r, m.Wants, clock)
	if !m.Known {
		m.Runs = runsNear(r, fewWants(r, 10), clock)
	}
	m.Asks, m.Gives = asksNear(r, m.Runs, clock)
	return m
}

// randomParcel is of any kind, mostly one that tells a mate something, and mostly of what that one asks for or gives back.
func randomParcel(r *rand.Rand, m impl.Mate) impl.MateParcel {
	p := impl.MateParcel{Kind: pickOf(r, 1, 1, 3, 3, 3, 3, 3, 5, 5), Berth: m.Name}
	if r.Intn(8) == 0 {
		p.Kind = pickOf(r, 2, 4, 6, 0, 7, -1, math.MinInt, math.MaxInt)
	}
	p.Seen = pickOf(r, m.Seen-1, m.Seen, m.Seen+1, m.Seen+1, 0, 1, 1000000, 1000001, -1, math.MinInt, math.MaxInt)
	p.Wants = fewWants(r, 10)
	if r.Intn(5) == 0 {
		p.Wants = randomWants(r)
	}
	p.Hold, p.Copy, p.At = fmt.Sprint("h", r.Intn(6)), pickOf(r, "a", "b", "c", "z"), r.Intn(100)
	all := slices.Concat(m.Asks, m.Asks, m.Gives)
	if p.Kind == 3 { // those that some run has
		all = slices.DeleteFunc(slices.Clone(m.Asks), func(a impl.MateAsk) bool { return a.Copy == "z" })
	}
	if len(all) > 0 && r.Intn(8) > 0 {
		a := pickOf(r, all...)
		p.Hold, p.Copy = a.Hold, a.Copy
		p.At = pickOf(r, a.At, a.At, a.First, (a.First+a.At)/2, a.First-1, a.At+1, a.At-1, math.MinInt, math.MaxInt)
	}
	if r.Intn(12) == 0 {
		p.Berth = pickOf(r, "", "b", "aa", "A")
	}
	return p
}

func TestMateTickAsRead(t *testing.T) {
	t.Parallel()
	r := rand.New(rand.NewSource(59))
	met := map[string]int{}
	note := func(what string) { met[what]++ }
	for range 20000 {
		m := randomMate(r)
		rate := pickOf(r, 1, 2, 3, 4)
		if r.Intn(20) == 0 {
			rate = pickOf(r, 0, 5, -1, 6, math.MinInt, math.MaxInt)
		}
		checkMateValid(t, "a random one", m, true)
		next, _ := checkMateTick(t, m, rate, note)
		checkMateValid(t, "behind a tick", next, true)
	}
	for _, what := range []string{"no rate", "the end", "killed", "down", "not known", "gone without a hold", "gone without an ask", "gone with another's ask", "forgotten", "given back", "no room to run", "pulled", "not asked while given back", "no room to ask", "asked", "asked for another copy", "renewed", "not asked yet"} {
		if met[what] < 300 {
			t.Errorf("the mates tell too little of %q: %v", what, met)
		}
	}
}

func TestMateTakeAsRead(t *testing.T) {
	t.Parallel()
	r := rand.New(rand.NewSource(60))
	met := map[string]int{}
	note := func(what string) { met[what]++ }
	for range 30000 {
		m := randomMate(r)
		next := checkMateTake(t, m, randomParcel(r, m), note)
		checkMateValid(t, "behind a parcel", next, true)
	}
	for _, what := range []string{"taken by none", "for another berth", "told", "not told", "given for another ask", "given for shorter", "given", "not back", "got back", "another kind"} {
		if met[what] < 300 {
			t.Errorf("the parcels tell too little of %q: %v", what, met)
		}
	}
}

func TestMateFallAsRead(t *testing.T) {
	t.Parallel()
	r := rand.New(rand.NewSource(61))
	left := 0
	for range 20000 {
		m := randomMate(r)
		checkMateValid(t, "behind a fall", checkMateFall(t, m, false), true)
		fallen := checkMateFall(t, m, true)
		checkMateValid(t, "behind a machine's fall", fallen, true)
		checkMateValid(t, "behind a rise", checkMateRise(t, m), true)
		left += len(fallen.Runs)
	}
	if left < 1000 {
		t.Errorf("the falls tell too little: %d", left)
	}
}

// Mates that have come up with nothing, and of which each call goes on from what the one before has left; what they send is answered late, twice or not at all.
func TestMateLifeAsRead(t *testing.T) {
	t.Parallel()
	r := rand.New(rand.NewSource(62))
	met := map[string]int{}
	note := func(what string) { met[what]++ }
	for range 300 {
		m := impl.Mate{Name: "a", Up: true, Clock: pickOf(r, 0, 0, 0, 999900)}
		var flight []impl.MateParcel
		seen := 0
		for range 150 {
			switch r.Intn(12) {
			case 0:
				if seen++; r.Intn(2) == 0 {
					flight = append(flight, impl.MateParcel{Kind: 1, Berth: "a", Seen: seen, Wants: fewWants(r, 1+r.Intn(10))})
				}
			case 1:
				if r.Intn(5) == 0 {
					m = checkMateFall(t, m, r.Intn(2) == 0)
				} else {
					m = checkMateRise(t, m)
				}
			case 2, 3, 4, 5, 6:
				if len(flight) == 0 {
					continue
				}
				at := r.Intn(len(flight))
				m = checkMateTake(t, m, flight[at], note)
				if r.Intn(3) > 0 {
					flight = slices.Delete(flight, at, at+1)
				}
			default:
				var sent []impl.MateParcel
				m, sent = checkMateTick(t, m, 1+r.Intn(4), note)
				for _, p := range sent {
					if p.Kind == 2 || p.Kind == 4 {
						p.Kind++
						flight = append(flight, p)
					}
				}
			}
			checkMateValid(t, "in its life", m, true)
		}
	}
	for _, what := range []string{"the end", "killed", "down", "not known", "gone without a hold", "gone without an ask", "gone with another's ask", "given back", "pulled", "not asked while given back", "asked", "asked for another copy", "renewed", "not asked yet", "taken by none", "told", "not told", "given for another ask", "given for shorter", "given", "not back", "got back"} {
		if met[what] < 20 {
			t.Errorf("the lives tell too little of %q: %v", what, met)
		}
	}
}

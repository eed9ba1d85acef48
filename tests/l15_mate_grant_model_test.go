package tests

import (
	"fmt"
	"math"
	"math/rand"
	"reflect"
	"slices"
	"strings"
	"testing"

	"loop.example/wharffleet/impl"
)

// A second reading of chapter 15, made another way than the program: lists that are searched from end to end, and notes of what was met.

// modelLandFaults are the conditions of an ok book that one does not meet.
func modelLandFaults(l impl.MateLand) []string {
	var faults []string
	fault := func(name string, is bool) {
		if is {
			faults = append(faults, name)
		}
	}
	fault("time", l.Time < 0 || l.Time > 2000000)
	fault("odd", l.Time&1 == 1)
	var holds, berths []string
	for _, g := range l.Grants {
		holds = append(holds, g.Hold)
		fault("grant's hold", g.Hold == "*" || !modelMateName.MatchString(g.Hold))
		fault("grant's berth", !modelMateName.MatchString(g.Berth))
		fault("grant's copy", !modelMateName.MatchString(g.Copy))
		fault("grant's at", g.At < 0 || g.At > 1000000)
		fault("grant's until", g.Until < 0 || g.Until-32 > l.Time)
	}
	fault("grants", len(l.Grants) > 40)
	fault("grants' order", !slices.Equal(holds, modelSet(holds)))
	count := map[string]int{}
	for _, p := range l.Places {
		berths = append(berths, p.Berth)
		fault("place's berth", !modelMateName.MatchString(p.Berth))
		fault("place's seen", p.Seen < 1 || p.Seen > 1000000)
		fault("place's wants", !modelWantsOk(p.Wants))
		var own []string
		for _, w := range p.Wants {
			own = append(own, w.Hold)
		}
		for _, hold := range modelSet(own) {
			count[hold]++
			fault("two places", hold != "" && count[hold] == 2)
		}
	}
	fault("places", len(l.Places) > 4)
	fault("places' order", !slices.Equal(berths, modelSet(berths)))
	return faults
}

// plainLand is a book in memory of its own, in which no list is empty but not nil.
func plainLand(l impl.MateLand) impl.MateLand {
	l.Grants, l.Places = nilIfEmpty(l.Grants), nilIfEmpty(l.Places)
	for i := range l.Places {
		l.Places[i].Wants = nilIfEmpty(l.Places[i].Wants)
	}
	return l
}

func modelPut(l impl.MateLand, berth string, wants []impl.MateWant) (impl.MateLand, int) {
	if len(modelLandFaults(l)) > 0 {
		return impl.MateLand{}, 1
	}
	l = plainLand(l)
	if !modelMateName.MatchString(berth) || !modelWantsOk(wants) {
		return l, 2
	}
	next, there := plainLand(l), false
	for i := range next.Places {
		if next.Places[i].Berth == berth {
			next.Places[i].Seen, next.Places[i].Wants, there = next.Places[i].Seen+1, nilIfEmpty(wants), true
		}
	}
	if !there {
		next.Places = append(next.Places, impl.MatePlace{Berth: berth, Seen: 1, Wants: nilIfEmpty(wants)})
		slices.SortFunc(next.Places, func(a, b impl.MatePlace) int { return strings.Compare(a.Berth, b.Berth) })
	}
	if len(modelLandFaults(next)) > 0 {
		return l, 3
	}
	return next, 0
}

func modelLandTick(l impl.MateLand) (impl.MateLand, []impl.MateParcel) {
	if len(modelLandFaults(l)) > 0 {
		return impl.MateLand{}, nil
	}
	l = plainLand(l)
	if l.Time == 2000000 {
		return l, nil
	}
	l.Time += 2
	var sent []impl.MateParcel
	for _, p := range l.Places {
		sent = append(sent, impl.MateParcel{Kind: 1, Berth: p.Berth, Seen: p.Seen, Wants: nilIfEmpty(p.Wants)})
	}
	return l, sent
}

func modelLandTake(l impl.MateLand, p impl.MateParcel, note func(string)) (impl.MateLand, []impl.MateParcel) {
	if len(modelLandFaults(l)) > 0 {
		note("not ok")
		return impl.MateLand{}, nil
	}
	l = plainLand(l)
	switch {
	case p.Kind != 2 && p.Kind != 4:
		note("another kind")
	case !modelMateName.MatchString(p.Berth), !modelMateName.MatchString(p.Copy), !modelMateName.MatchString(p.Hold), p.Hold == "*", p.At < 0, p.At > 1000000:
		note("a part that is none")
	case p.Kind == 2:
		return modelLandAsked(l, p, note)
	default:
		for i, g := range l.Grants {
			if g.Hold != p.Hold {
				continue
			}
			switch {
			case g.Berth != p.Berth:
				note("back of another berth")
			case g.At > p.At:
				note("back of an older ask")
			default:
				note("back")
				l.Grants = nilIfEmpty(slices.Delete(l.Grants, i, i+1))
			}
			return l, []impl.MateParcel{{Kind: 5, Berth: p.Berth, Hold: p.Hold, At: p.At}}
		}
		note("back of no grant")
		return l, []impl.MateParcel{{Kind: 5, Berth: p.Berth, Hold: p.Hold, At: p.At}}
	}
	return l, nil
}

func modelLandAsked(l impl.MateLand, p impl.MateParcel, note func(string)) (impl.MateLand, []impl.MateParcel) {
	at := slices.IndexFunc(l.Places, func(x impl.MatePlace) bool { return x.Berth == p.Berth })
	if at < 0 {
		note("no place")
		return l, nil
	}
	w, wanted := modelWantFor(l.Places[at].Wants, p.Copy)
	if !wanted || w.Hold != p.Hold {
		note(map[bool]string{true: "wanted with another hold", false: "not wanted"}[wanted])
		return l, nil
	}
	given := impl.MateGrant{Hold: p.Hold, Berth: p.Berth, Copy: p.Copy, At: p.At, Until: l.Time + 32}
	answer := []impl.MateParcel{{Kind: 3, Berth: p.Berth, Hold: p.Hold, Copy: p.Copy, At: p.At}}
	for i, g := range l.Grants {
		if g.Hold != p.Hold {
			continue
		}
		switch {
		case g.Until <= l.Time:
			note("given behind its time")
		case g.Berth != p.Berth:
			note("another berth has it")
			return l, nil
		case g.Copy != p.Copy:
			note("another copy has it")
			return l, nil
		case g.At > p.At:
			note("an older ask")
			return l, nil
		default:
			note("given anew")
		}
		l.Grants[i] = given
		return l, answer
	}
	if len(l.Grants) == 40 {
		var left []impl.MateGrant
		for _, g := range l.Grants {
			if g.Until > l.Time {
				left = append(left, g)
			}
		}
		if len(left) == 40 {
			note("full")
			return l, nil
		}
		note("room is made")
		l.Grants = left
	}
	note("given")
	l.Grants = append(l.Grants, given)
	slices.SortFunc(l.Grants, func(a, b impl.MateGrant) int { return strings.Compare(a.Hold, b.Hold) })
	return l, answer
}

func checkLandOk(t *testing.T, what string, l impl.MateLand, want bool) {
	t.Helper()
	if got := impl.MateLandOk(l); got != want {
		t.Errorf("%s: MateLandOk is %v: %+v", what, got, l)
	}
	if got := modelLandFaults(l); (len(got) == 0) != want {
		t.Errorf("%s: the second reading finds %q: %+v", what, got, l)
	}
}

// checkPut holds MatePut against the second reading, and tells what it answered.
func checkPut(t *testing.T, l impl.MateLand, berth string, wants []impl.MateWant) (impl.MateLand, int) {
	t.Helper()
	want, wantCode := modelPut(l, berth, wants)
	got, code := impl.MatePut(l, berth, wants)
	if code != wantCode || !reflect.DeepEqual(plainLand(got), want) {
		t.Fatalf("MatePut(%+v, %q, %+v)\nis %+v, %d\nnot %+v, %d", l, berth, wants, got, code, want, wantCode)
	}
	return got, code
}

func checkLandTick(t *testing.T, l impl.MateLand) (impl.MateLand, []impl.MateParcel) {
	t.Helper()
	want, wantSent := modelLandTick(l)
	got, sent := impl.MateLandTick(l)
	if !reflect.DeepEqual(plainLand(got), want) || !sameParcels(sent, wantSent) {
		t.Fatalf("MateLandTick(%+v)\nis %+v\n%+v\nnot %+v\n%+v", l, got, sent, want, wantSent)
	}
	return got, sent
}

func checkLandTake(t *testing.T, l impl.MateLand, p impl.MateParcel, note func(string)) (impl.MateLand, []impl.MateParcel) {
	t.Helper()
	want, wantSent := modelLandTake(l, p, note)
	got, sent := impl.MateLandTake(l, p)
	if !reflect.DeepEqual(plainLand(got), want) || !sameParcels(sent, wantSent) {
		t.Fatalf("MateLandTake(%+v, %+v)\nis %+v\n%+v\nnot %+v\n%+v", l, p, got, sent, want, wantSent)
	}
	return got, sent
}

// randomPlaces are ok: no hold is in two of them.
func randomPlaces(r *rand.Rand) []impl.MatePlace {
	var list []impl.MatePlace
	var held []string
	for _, berth := range []string{"a", "b", "c", "d"} {
		if r.Intn(4) == 0 {
			continue
		}
		wants := fewWants(r, 10)
		for i := range wants {
			if slices.Contains(held, wants[i].Hold) {
				wants[i].Hold = ""
			}
		}
		for _, w := range wants {
			held = append(held, w.Hold)
		}
		list = append(list, impl.MatePlace{Berth: berth, Seen: pickOf(r, 1, 2, 7, 999999, 1000000), Wants: wants})
	}
	return list
}

// randomLand is ok: grants are of what is wanted, or nearly so, and at times as many as may be.
func randomLand(r *rand.Rand) impl.MateLand {
	l := impl.MateLand{Time: 2 * r.Intn(60), Places: randomPlaces(r)}
	if r.Intn(10) == 0 {
		l.Time = 2000000 - 2*r.Intn(3)
	}
	var holds []string
	add := func(g impl.MateGrant) {
		if !slices.Contains(holds, g.Hold) && len(holds) < 40 {
			holds = append(holds, g.Hold)
			g.At, g.Until = pickOf(r, 0, 1, 49, 50, 51, 1000000), max(0, l.Time+pickOf(r, -50, -2, -1, 0, 0, 1, 2, 16, 31, 32))
			l.Grants = append(l.Grants, g)
		}
	}
	for _, p := range l.Places {
		for _, w := range p.Wants {
			if w.Hold != "" && r.Intn(3) > 0 {
				g := impl.MateGrant{Hold: w.Hold, Berth: p.Berth, Copy: w.Copy}
				if r.Intn(3) == 0 {
					g.Berth, g.Copy = pickOf(r, "a", "b", "gone", p.Berth), pickOf(r, "a", "b", "gone", w.Copy)
				}
				add(g)
			}
		}
	}
	for i := range pickOf(r, 0, 0, 0, 1, 3, 38, 39, 40, 40, 40) {
		add(impl.MateGrant{Hold: fmt.Sprint(pickOf(r, "g", "h", "i"), i), Berth: pickOf(r, "a", "b"), Copy: "z"})
	}
	if r.Intn(2) == 0 { // few of them are over
		for i := range l.Grants {
			if l.Grants[i].Until <= l.Time && r.Intn(40) > 0 {
				l.Grants[i].Until = l.Time + 1
			}
		}
	}
	slices.SortFunc(l.Grants, func(a, b impl.MateGrant) int { return strings.Compare(a.Hold, b.Hold) })
	return l
}

// randomWord is a parcel to a book: mostly a berth's, and mostly on what is wanted or given.
func randomWord(r *rand.Rand, l impl.MateLand) impl.MateParcel {
	p := impl.MateParcel{Kind: pickOf(r, 2, 2, 2, 4), Berth: pickOf(r, "a", "b", "c", "d", "e"), Hold: fmt.Sprint("h", r.Intn(6)), Copy: pickOf(r, "a", "b", "c", "z"), At: pickOf(r, 0, 1, 49, 50, 51, 999999, 1000000)}
	if len(l.Places) > 0 && r.Intn(3) > 0 {
		place := pickOf(r, l.Places...)
		for _, w := range place.Wants {
			if w.Hold != "" && r.Intn(2) == 0 {
				p.Berth, p.Hold, p.Copy = place.Berth, w.Hold, w.Copy
			}
		}
	}
	if len(l.Grants) > 0 && r.Intn(3) == 0 {
		g := pickOf(r, l.Grants...)
		p.Berth, p.Hold, p.Copy, p.At = g.Berth, g.Hold, g.Copy, max(0, g.At+pickOf(r, -1, 0, 1))
	}
	switch r.Intn(14) {
	case 0:
		p.Kind = pickOf(r, 1, 3, 5, 6, 0, 7, -1, math.MinInt, math.MaxInt)
	case 1:
		p.At = pickOf(r, -1, 1000001, math.MinInt, math.MaxInt)
	case 2:
		none := pickOf(r, "", "x y", "\x7f", strings.Repeat("x", 21))
		switch r.Intn(3) {
		case 0:
			p.Berth = none
		case 1:
			p.Copy = none
		case 2:
			p.Hold = pickOf(r, none, "*")
		}
	case 3:
		p.Seen, p.Wants = r.Intn(9), randomWants(r)
	}
	return p
}

func TestMateLandTakeAsRead(t *testing.T) {
	t.Parallel()
	r := rand.New(rand.NewSource(69))
	met := map[string]int{}
	note := func(what string) { met[what]++ }
	for range 12000 {
		l := randomLand(r)
		checkLandOk(t, "a random one", l, true)
		next, _ := checkLandTake(t, l, randomWord(r, l), note)
		checkLandOk(t, "behind a parcel", next, true)
	}
	for _, what := range []string{"another kind", "a part that is none", "back of another berth", "back of an older ask", "back", "back of no grant", "no place", "not wanted", "wanted with another hold", "given behind its time", "another berth has it", "another copy has it", "an older ask", "given anew", "full", "room is made", "given"} {
		if met[what] < 50 {
			t.Errorf("the parcels tell too little of %q: %v", what, met)
		}
	}
}

func TestMatePutAsRead(t *testing.T) {
	t.Parallel()
	r := rand.New(rand.NewSource(70))
	met := map[int]int{}
	for range 8000 {
		l := randomLand(r)
		if r.Intn(8) == 0 {
			pickOf(r, landChanges()...).change(&l)
		}
		wants := fewWants(r, 10)
		switch r.Intn(4) {
		case 0:
			wants = randomWants(r)
		case 1:
			for i := range wants {
				wants[i].Hold = ""
			}
		}
		next, code := checkPut(t, l, pickOf(r, "a", "b", "c", "d", "e", "", "x y"), wants)
		checkLandOk(t, "behind MatePut", next, true)
		met[code]++
	}
	for code := range 4 {
		if met[code] < 300 {
			t.Errorf("the wants tell too little of code %d: %v", code, met)
		}
	}
}

func TestMateLandTickAsRead(t *testing.T) {
	t.Parallel()
	r := rand.New(rand.NewSource(71))
	sent, ended := 0, 0
	for range 3000 {
		l := randomLand(r)
		next, told := checkLandTick(t, l)
		checkLandOk(t, "behind a tick", next, true)
		sent += len(told)
		if next.Time == l.Time {
			ended++
		}
	}
	if sent < 3000 || ended < 100 {
		t.Errorf("the ticks tell too little: %d, %d", sent, ended)
	}
}

// Books that live on: each call goes on from what the one before has left, and asks come in any order, late and twice.
func TestMateLandLifeAsRead(t *testing.T) {
	t.Parallel()
	r := rand.New(rand.NewSource(72))
	met := map[string]int{}
	note := func(what string) { met[what]++ }
	moved := [][]impl.MateWant{nil, nil, {wantOf("a", "h0")}, {wantOf("a", "h0")}, {wantOf("b", "h0")}, {wantOf("a", "h1"), wantOf("b", "h0")}, {wantOf("c", "h1"), wantOf("d", "")}}
	for range 300 {
		l := impl.MateLand{Time: pickOf(r, 0, 0, 0, 1999900)}
		var flight []impl.MateParcel
		for clock := range 150 {
			switch r.Intn(8) {
			case 0:
				l, _ = checkPut(t, l, pickOf(r, "a", "b", "b", "c"), pickOf(r, moved...))
			case 1:
				for range 1 + r.Intn(20) {
					l, _ = checkLandTick(t, l)
				}
			case 2, 3, 4:
				p := randomWord(r, l)
				p.At = clock
				flight = append(flight, p)
				l, _ = checkLandTake(t, l, p, note)
			default:
				if len(flight) == 0 {
					continue
				}
				at := r.Intn(len(flight))
				l, _ = checkLandTake(t, l, flight[at], note)
				if r.Intn(3) > 0 {
					flight = slices.Delete(flight, at, at+1)
				}
			}
			checkLandOk(t, "in its life", l, true)
		}
	}
	for _, what := range []string{"another kind", "a part that is none", "back of another berth", "back of an older ask", "back", "back of no grant", "no place", "not wanted", "wanted with another hold", "given behind its time", "another berth has it", "another copy has it", "an older ask", "given anew", "given"} {
		if met[what] < 20 {
			t.Errorf("the lives tell too little of %q: %v", what, met)
		}
	}
}

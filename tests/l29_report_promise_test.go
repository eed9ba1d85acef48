package tests

import (
	"fmt"
	"math/rand"
	"testing"

	"loop.example/wharffleet/impl"
)

// checkPromise37 holds promise 37 by its words, of a report that is ok: it is heard twice, one directly after the other, and once. It tells whether the first time changed more than when the berth was heard of.
func checkPromise37(t *testing.T, w impl.FleetWorld, r impl.FleetReport) (impl.FleetWorld, bool) {
	t.Helper()
	once := impl.FleetHear(w, r)
	if !impl.FleetValid(once) {
		t.Fatalf("FleetHear gives what is not valid, %q: %+v in %+v", modelWharfFaults(once), r, w)
	}
	if twice := impl.FleetHear(once, r); !sameWharf(twice, once) {
		t.Fatalf("%+v heard twice in %+v\nleaves %+v\nand once %+v", r, w, twice, once)
	}
	if by := once.Stew.Now - w.Stew.Now; by != 0 && by != 1 {
		t.Fatalf("%d changes by one report: %+v", by, r)
	}
	return once, once.Stew.Now != w.Stew.Now
}

func TestPromise37(t *testing.T) {
	t.Parallel()
	r := rand.New(rand.NewSource(293))
	met := map[string]int{}
	for i := range 5000 {
		w := randomWharf(r)
		if i%3 == 0 {
			w = nearlyFull(r)
		}
		w = withEndingWanted(r, w)
		report := reportNear(r, w)
		for len(modelFaultsOfReport(report)) > 0 {
			report = reportNear(r, w)
		}
		next, changed := checkPromise37(t, w, report)
		met[fmt.Sprint("changed ", changed)]++
		if len(next.Stew.Copies) < len(w.Stew.Copies) {
			met["gone"]++
		}
		if w.Stew.Now == 999999 && changed {
			met["the last change"]++
		}
		// One that was heard ahead of another one may change something again.
		other, changed := checkPromise37(t, next, reportNear(r, w))
		met[fmt.Sprint("another one changed ", changed)]++
		checkPromise37(t, other, report)
	}
	for what, least := range map[string]int{"changed true": 1000, "changed false": 500, "gone": 500, "the last change": 100, "another one changed true": 500, "another one changed false": 500} {
		if met[what] < least {
			t.Errorf("the fleets tell too little of %q: %v", what, met)
		}
	}
}

// fleetTale is a fleet whose mates run, fall and rise, and whose reports come late, twice, or not at all.
type fleetTale struct {
	t    *testing.T
	r    *rand.Rand
	w    impl.FleetWorld
	late []impl.FleetReport
	met  map[string]int
}

func newFleetTale(t *testing.T, r *rand.Rand, met map[string]int) *fleetTale {
	names := []string{"a", "b", "c", "d"}[:1+r.Intn(4)]
	x := &fleetTale{t: t, r: r, w: impl.FleetNew(emptyWharf(names...).Berths), met: met}
	for _, name := range []string{"db", "web"} {
		x.wish(name)
	}
	return x
}

func (x *fleetTale) wish(name string) {
	x.w = impl.FleetDo(x.w, impl.FleetEvent{
		Kind:  impl.FleetWish,
		Wish:  impl.StewService{Name: name, Image: 1 + x.r.Intn(3), Want: x.r.Intn(4), Down: x.r.Intn(2), Over: 1},
		Needs: impl.FleetKind{Room: 1, Volume: x.r.Intn(2) == 0, Pull: x.r.Intn(3), Start: x.r.Intn(3), Grace: x.r.Intn(3)},
	})
}

// mates lets an event of the mates' world happen to the fleet's.
func (x *fleetTale) mates(e impl.MateEvent) { x.w.Mates = impl.MateDo(x.w.Mates, e) }

// tick is a tick of the mates, what they send being brought, and their reports put behind those that are late.
func (x *fleetTale) tick() {
	x.w.Mates = impl.MateCalm(x.w.Mates, 1, []int{1 + x.r.Intn(4), 2, 1, 4})
	for _, m := range x.w.Mates.Mates {
		if report := impl.FleetReportOf(m); report.Berth != "" {
			x.late = append(x.late, report)
		}
	}
}

func (x *fleetTale) hear(at int) {
	next, changed := checkPromise37(x.t, x.w, x.late[at])
	x.met[fmt.Sprint("changed ", changed)]++
	x.met["gone"] += len(x.w.Stew.Copies) - len(next.Stew.Copies)
	x.w = next
}

func (x *fleetTale) land() {
	swept := impl.FleetSweep(x.w)
	x.met["given up"] += len(x.w.Stew.Copies) - len(swept.Stew.Copies)
	if faults := modelWharfFaults(swept); !impl.FleetValid(swept) || len(faults) > 0 {
		x.t.Fatalf("FleetSweep gives what is not valid, %q: %+v of %+v", faults, swept, x.w)
	}
	x.w = impl.FleetTell(impl.FleetPlace(swept))
}

func (x *fleetTale) stewards() {
	for kind := 1; kind <= 6; kind++ {
		x.w = impl.FleetDo(x.w, impl.FleetEvent{Kind: impl.FleetStewards, A: kind})
	}
}

// step lets anything happen.
func (x *fleetTale) step() {
	switch at := x.r.Intn(len(x.w.Berths)); x.r.Intn(14) {
	case 0:
		x.mates(impl.MateEvent{Kind: impl.MateEvFall, A: at, B: x.r.Intn(2)})
	case 1:
		x.mates(impl.MateEvent{Kind: impl.MateEvRise, A: at})
	case 2:
		x.w = impl.FleetDo(x.w, impl.FleetEvent{Kind: impl.FleetDrain, A: at, B: x.r.Intn(2)})
	case 3, 4:
		x.wish(pickOf(x.r, "db", "web", "x"))
		x.stewards()
	case 5:
		x.stewards()
	case 6, 7, 8:
		x.land()
	case 9:
		for range 25 { // long enough for a berth that is down to be silent
			x.tick()
		}
	default:
		x.tick()
	}
	for range min(len(x.late), x.r.Intn(12)) {
		at := x.r.Intn(len(x.late))
		x.hear(at)
		if x.r.Intn(4) > 0 {
			x.late = append(x.late[:at], x.late[at+1:]...)
		}
	}
	if len(x.late) > 40 {
		x.late = x.late[20:]
	}
	if faults := modelWharfFaults(x.w); !impl.FleetValid(x.w) || len(faults) > 0 {
		x.t.Fatalf("the fleet is not valid, %q: %+v", faults, x.w)
	}
}

// calm lets rounds go by in which nothing fails: each report is heard, each steward looks, and the land works.
func (x *fleetTale) calm(rounds int) {
	for range rounds {
		x.late = nil
		x.tick()
		for at := range x.late {
			x.hear(at)
		}
		x.stewards()
		x.land()
	}
}

// What chapter 29 bears of promise 33, and promise 37 again, over fleets that were led somewhere by mates that run: a valid fleet stays so, whatever is heard and given up. And reports are enough for the book to come to know what runs: once nothing fails any more, the fleet comes to what is wanted.
func TestPromise33OfHearingAndSweeping(t *testing.T) {
	t.Parallel()
	r := rand.New(rand.NewSource(294))
	met := map[string]int{}
	for i := range 90 {
		x := newFleetTale(t, r, met)
		for range 60 {
			x.step()
		}
		if i%3 > 0 {
			continue
		}
		for at := range x.w.Berths {
			x.mates(impl.MateEvent{Kind: impl.MateEvRise, A: at})
		}
		x.w = impl.FleetDo(x.w, impl.FleetEvent{Kind: impl.FleetDrain, A: len(x.w.Berths) - 1})
		x.calm(120)
		if !impl.StewDone(x.w.Stew) || !impl.MateSettled(x.w.Mates) || !impl.MateSafe(x.w.Mates) {
			t.Fatalf("it is not as it is wanted: %s, %+v", copiesIn(x.w), x.w)
		}
	}
	for what, least := range map[string]int{"changed true": 300, "changed false": 1000, "gone": 100, "given up": 100} {
		if met[what] < least {
			t.Errorf("the tales tell too little of %q: %v", what, met)
		}
	}
}

// What is random, and given up: valid fleets stay so.
func TestPromise33OfSweeping(t *testing.T) {
	t.Parallel()
	r := rand.New(rand.NewSource(295))
	given := 0
	for i := range 3000 {
		w := randomWharf(r)
		if i%3 == 0 {
			w = silentSince(nearlyFull(r), 100, 100-r.Intn(60), 100-r.Intn(60), 59, 60)
		}
		next := impl.FleetSweep(w)
		if !impl.FleetValid(next) {
			t.Fatalf("FleetSweep gives what is not valid, %q: %+v of %+v", modelWharfFaults(next), next, w)
		}
		if again := impl.FleetSweep(next); !sameWharf(again, next) {
			t.Fatalf("a second sweep of %+v\nfinds something: %+v", next, again)
		}
		given += len(w.Stew.Copies) - len(next.Stew.Copies)
	}
	if given < 3000 {
		t.Errorf("%d are given up: the fleets tell too little", given)
	}
}

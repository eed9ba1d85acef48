package tests

import (
	"fmt"
	"math/rand"
	"slices"
	"testing"

	"loop.example/wharffleet/impl"
)

// wharfTale is a fleet that a new one and events have led to. Behind each event promises 33, 35 and 36 are held.
type wharfTale struct {
	t   *testing.T
	r   *rand.Rand
	w   impl.FleetWorld
	met map[string]int
	// cut are the berths from and to which nothing comes, for so many rounds yet.
	cut map[string]int
	// held are the berths that were last given each hold.
	held map[string]string
	// wide is whether more may be wanted, and kinds may be others, than promise 38 asks for.
	wide bool
	// lost is whether the fleet has come to what livesByWhatItGivesBack tells of: promise 35 is asked for until then.
	lost bool
}

func (x *wharfTale) do(e impl.FleetEvent) {
	x.t.Helper()
	next := impl.FleetDo(x.w, e)
	if !impl.FleetValid(next) {
		x.t.Fatalf("promise 33: it is not valid, %q: %+v behind %+v of %+v", modelWharfFaults(next), next, e, x.w)
	}
	if livesByWhatItGivesBack(next.Mates) && !x.lost {
		x.lost = true
		x.met["lost"]++
	}
	if !x.lost && !impl.FleetSafe(next) {
		x.t.Fatalf("promise 35: two hold one thing: %+v behind %+v", next.Mates, e)
	}
	if e.Kind == impl.FleetStewards {
		checkPromise36(x.t, x.w, next, x.met)
	}
	x.note(e, next)
	x.w = next
}

// note counts what happened.
func (x *wharfTale) note(e impl.FleetEvent, next impl.FleetWorld) {
	if !sameWharf(x.w, next) {
		x.met[fmt.Sprint("kind ", e.Kind)]++
	}
	if e.Kind == impl.FleetLand {
		x.met["given up"] += max(0, len(x.w.Stew.Copies)-len(next.Stew.Copies))
		x.met["placed"] += max(0, len(next.Slots)-len(x.w.Slots))
	}
	if e.Kind == impl.FleetListen && len(next.Stew.Copies) < len(x.w.Stew.Copies) {
		x.met["gone"]++
	}
	for _, g := range next.Mates.Land.Grants {
		if x.held[g.Hold] != "" && x.held[g.Hold] != g.Berth {
			x.met["moved"]++ // a volume to another berth
		}
		x.held[g.Hold] = g.Berth
	}
}

// checkPromise36 holds promise 36 of what a steward did: all its acts are of different services.
func checkPromise36(t *testing.T, w, next impl.FleetWorld, met map[string]int) {
	t.Helper()
	for _, s := range next.Stew.Services {
		ended, ready := 0, 0
		for _, c := range next.Stew.Copies {
			if c.Service != s.Name {
				continue
			}
			if !c.Ending && c.State == impl.StewReady {
				ready++
			}
			at := slices.IndexFunc(w.Stew.Copies, func(was impl.StewCopy) bool { return was.Service == c.Service && was.Number == c.Number })
			if at >= 0 && c.Ending && !w.Stew.Copies[at].Ending && w.Stew.Copies[at].State == impl.StewReady {
				ended++
			}
		}
		if ended > 0 && !s.Gone {
			met["ended ready ones"]++
			if ready < s.Want-s.Down {
				t.Fatalf("promise 36: %d of %+v are ready, behind %d that ended: %+v", ready, s, ended, next.Stew)
			}
			if ready == s.Want-s.Down {
				met["just enough are ready"]++
			}
		}
	}
}

func newWharfTale(t *testing.T, r *rand.Rand, met map[string]int) *wharfTale {
	x := &wharfTale{t: t, r: r, met: met, cut: map[string]int{}, held: map[string]string{}}
	var berths []impl.PilotBerth
	names := pickOf(r, []string{"a"}, []string{"a", "b"}, []string{"a", "b"}, []string{"a", "b", "c"}, []string{"a", "b", "c", "d"})
	for i, name := range names {
		b := impl.PilotBerth{Name: name, Zone: pickOf(r, "east", "west"), Marks: pickOf(r, nil, []string{"ssd"}), Room: pickOf(r, 0, 60, 150, 1000), Hold: pickOf(r, 60, 1000)}
		if i == len(names)-1 {
			b.Room, b.Hold = 1000, 1000
		}
		berths = append(berths, b)
	}
	x.w = impl.FleetNew(berths)
	return x
}

// wish is of a service such that promise 38 may be asked of the fleet behind it, unless it is wide.
func (x *wharfTale) wish() {
	r := x.r
	name := pickOf(r, "db", "web", "x-1")
	if x.wide {
		name = pickOf(r, "a", "a-1", "b", "c", "db", "eightlet", "web", "x-1")
	}
	s := impl.StewService{Name: name, Image: 1 + r.Intn(3), Want: r.Intn(5), Down: r.Intn(3), Over: r.Intn(3), Gone: r.Intn(6) == 0}
	if s.Down+s.Over == 0 {
		s.Over = 1
	}
	if r.Intn(4) == 0 {
		s.Per, s.Least = 1+r.Intn(10), r.Intn(2)
		s.Most, s.Load = s.Least+r.Intn(4), r.Intn(60)
	}
	total := max(s.Want, s.Most) + s.Over
	for _, other := range x.w.Stew.Services {
		if other.Name != name {
			total += max(other.Want, other.Most) + other.Over
		}
	}
	if total > 9 && !x.wide {
		return
	}
	needs := impl.FleetKind{Rank: r.Intn(3), Room: r.Intn(51), Hold: r.Intn(51), Volume: r.Intn(4) > 0, Pull: r.Intn(6), Start: r.Intn(6), Grace: r.Intn(6)}
	if x.wide {
		needs.Select, needs.Apart, needs.Room, needs.Grace = pickOf(r, "", "", "ssd", "zone=east", "!ssd"), pickOf(r, 0, 0, 1, 2), pickOf(r, 0, 50, 300), pickOf(r, 0, 5, 30, 100)
	}
	x.do(impl.FleetEvent{Kind: impl.FleetWish, Wish: s, Needs: needs})
}

// rates are those of clocks that lie, anew at each tick.
func (x *wharfTale) rates() []int {
	var rates []int
	for range x.r.Intn(6) {
		rates = append(rates, pickOf(x.r, 1, 1, 2, 3, 4, 4, 0, 5))
	}
	return rates
}

// round is one in which much may fail: mail comes in any order, twice, late, or never, and so do reports.
func (x *wharfTale) round() {
	r := x.r
	x.do(impl.FleetEvent{Kind: impl.FleetTick, Rates: x.rates()})
	fails := pickOf(r, 0, 0, 2, 5)
	for n := 2 * len(x.w.Mates.Flight); n > 0 && len(x.w.Mates.Flight) > 0; n-- {
		at := 0
		if fails > 0 {
			at = r.Intn(len(x.w.Mates.Flight))
		}
		p, _ := impl.MateRead(x.w.Mates.Flight[at])
		kind := impl.FleetBring
		switch {
		case x.cut[p.Berth] > 0:
			kind = impl.FleetLose
		case r.Intn(20) < fails:
			kind = pickOf(r, impl.FleetLose, impl.FleetDouble)
		}
		x.do(impl.FleetEvent{Kind: kind, A: at})
	}
	for n := len(x.w.Reports); n > 0 && len(x.w.Reports) > 0; n-- {
		at := 0
		if fails > 0 {
			at = r.Intn(len(x.w.Reports))
		}
		kind := impl.FleetListen
		switch {
		case x.cut[x.w.Reports[at].Berth] > 0:
			kind = impl.FleetMiss
		case r.Intn(10) < fails:
			continue // it comes late
		}
		x.do(impl.FleetEvent{Kind: kind, A: at})
	}
	for kind := range 7 {
		if r.Intn(10) > 0 {
			x.do(impl.FleetEvent{Kind: impl.FleetStewards, A: kind})
		}
	}
	if r.Intn(10) > 0 {
		x.do(impl.FleetEvent{Kind: impl.FleetLand})
	}
	for name := range x.cut {
		x.cut[name]--
	}
}

// trouble is what fails, and what people want otherwise.
func (x *wharfTale) trouble() {
	at := x.r.Intn(len(x.w.Berths))
	switch x.r.Intn(8) {
	case 0:
		x.do(impl.FleetEvent{Kind: impl.FleetFall, A: at, B: x.r.Intn(2)})
	case 1, 2:
		x.do(impl.FleetEvent{Kind: impl.FleetRise, A: at})
	case 3:
		x.do(impl.FleetEvent{Kind: impl.FleetDrain, A: at, B: x.r.Intn(2)})
	case 4:
		x.cut[x.w.Berths[at].Name] = pickOf(x.r, 3, 15, 25, 40)
	default:
		x.wish()
	}
}

func (x *wharfTale) live(rounds int) {
	for range 3 {
		x.wish()
	}
	for range rounds {
		if x.r.Intn(4) == 0 {
			x.trouble()
		}
		x.round()
	}
}

// calmed is all mates raised, and the last berth not to be drained.
func (x *wharfTale) calmed() {
	for at := range x.w.Berths {
		x.do(impl.FleetEvent{Kind: impl.FleetRise, A: at})
	}
	x.do(impl.FleetEvent{Kind: impl.FleetDrain, A: len(x.w.Berths) - 1})
}

// Promises 33, 35 and 36 behind each event of long tales, in which all may fail, and all may be wanted.
func TestPromises33And35And36(t *testing.T) {
	for part := range 4 {
		t.Run(fmt.Sprint("part ", part), func(t *testing.T) {
			t.Parallel()
			r := rand.New(rand.NewSource(int64(309 + part)))
			met := map[string]int{}
			for i := range 40 {
				x := newWharfTale(t, r, met)
				x.wide = i%2 == 0
				x.live(60)
			}
			for what, least := range map[string]int{"ended ready ones": 30, "just enough are ready": 15, "given up": 100, "gone": 40, "placed": 200, "moved": 8, "kind 1": 2000, "kind 2": 5000, "kind 3": 1000, "kind 4": 300, "kind 5": 2000, "kind 6": 400, "kind 7": 30, "kind 8": 20, "kind 9": 150, "kind 10": 40, "kind 11": 400, "kind 12": 250} {
				if met[what] < least {
					t.Errorf("the tales tell too little of %q: %v", what, met)
				}
			}
			if met["lost"] > 2 {
				t.Errorf("too many tales come to where promise 35 is not asked for: %v", met)
			}
		})
	}
}

// checkPromise38 holds promise 38 of a fleet of which it may be asked: first round by round and event by event, with promises 33, 35 and 36, and then all at once.
func (x *wharfTale) checkPromise38(rates []int) {
	x.t.Helper()
	from := x.w
	for range 30 {
		calm := impl.FleetCalm(x.w, 1, rates)
		modelRoundOf(x.w, rates, func(_ impl.FleetWorld, e impl.FleetEvent) impl.FleetWorld {
			x.do(e)
			return x.w
		})
		if !sameWharf(x.w, calm) {
			x.t.Fatalf("a round leads to %+v\nand its events to %+v", calm, x.w)
		}
	}
	w := impl.FleetCalm(x.w, 1970, rates)
	for i := range 12 {
		if waits := impl.FleetWaits(w); !impl.FleetSettled(w) || len(waits) > 0 || !impl.FleetSafe(w) {
			x.t.Fatalf("promise 38: with rates %v, %d rounds behind 2000, it is not settled: %q is left, %q, %s of %+v\nfrom %+v", rates, i, modelUnsettled(w), waits, copiesIn(w), w.Stew.Services, from)
		}
		w = impl.FleetCalm(w, 1, rates)
	}
	x.met["settled copies"] += len(w.Stew.Copies)
	x.met["settled services"] += len(w.Stew.Services)
	x.w = w
}

// Promise 38 behind tales in which all has failed.
func TestPromise38(t *testing.T) {
	for part := range 4 {
		t.Run(fmt.Sprint("part ", part), func(t *testing.T) {
			t.Parallel()
			r := rand.New(rand.NewSource(int64(313 + part)))
			met := map[string]int{}
			for range 8 {
				x := newWharfTale(t, r, met)
				x.live(pickOf(r, 5, 30, 60))
				x.calmed()
				x.checkPromise38(x.rates())
			}
			if met["settled copies"] < 20 || met["settled services"] < 10 {
				t.Errorf("the tales tell too little: %v", met)
			}
		})
	}
}

// Promise 38 of a fleet of which far too much was wanted until now: nearly as many copies as there may be are there, and few are wanted.
func TestPromise38OfTheGreatest(t *testing.T) {
	t.Parallel()
	r := rand.New(rand.NewSource(317))
	for _, rates := range [][]int{nil, {4, 1, 4, 1}} {
		x := newWharfTale(t, r, map[string]int{})
		x.w = impl.FleetNew(emptyWharf("a", "b", "c", "d").Berths)
		wish := func(name string, want, over int) {
			x.do(impl.FleetEvent{Kind: impl.FleetWish, Wish: impl.StewService{Name: name, Image: 1 + r.Intn(2), Want: want, Down: 1, Over: over}, Needs: impl.FleetKind{Room: 50, Hold: 50, Volume: true, Pull: 5, Start: 5, Grace: 5}})
		}
		for turn := range 2 {
			for i := range 8 {
				wish(fmt.Sprint("s", i), 10, 10)
			}
			for range 3 + 20*turn {
				x.round()
			}
		}
		if len(x.w.Stew.Copies) < 80 || impl.PilotValid(impl.FleetPilot(x.w)) {
			t.Errorf("%d copies", len(x.w.Stew.Copies))
		}
		for i := range 8 {
			wish(fmt.Sprint("s", i), i%2, 0)
		}
		wish("s1", 2, 1)
		wish("s3", 3, 0)
		for at := range 3 {
			x.do(impl.FleetEvent{Kind: impl.FleetDrain, A: at, B: 1})
		}
		x.checkPromise38(rates)
		if got := len(x.w.Stew.Copies); got != 7 || len(x.w.Mates.Mates[3].Runs) != 7 || len(x.w.Mates.Mates[0].Runs) != 0 {
			t.Errorf("%d copies: %s", got, copiesIn(x.w))
		}
	}
}

// Promise 38 at its edges: as much as may be of all, with clocks as fast and as slow as may be, and all moves from berth to berth.
func TestPromise38OfTheSlowest(t *testing.T) {
	t.Parallel()
	for _, rates := range [][]int{{1, 1}, {4, 4}, {1, 4}, {4, 1}} {
		x := newWharfTale(t, rand.New(rand.NewSource(318)), map[string]int{})
		x.w = impl.FleetNew(emptyWharf("a", "b").Berths)
		for i, s := range []impl.StewService{{Name: "db", Image: 1, Want: 4, Down: 1}, {Name: "web", Image: 1, Want: 3, Over: 1, Per: 7, Least: 2, Most: 4, Load: 100}} {
			x.do(impl.FleetEvent{Kind: impl.FleetWish, Wish: s, Needs: impl.FleetKind{Rank: i, Room: 50, Hold: 50, Volume: true, Pull: 5, Start: 5, Grace: 5}})
		}
		x.checkPromise38(rates)
		if got := len(x.w.Stew.Copies); got != 8 {
			t.Errorf("%d copies: %s", got, copiesIn(x.w))
		}
		x.do(impl.FleetEvent{Kind: impl.FleetDrain, A: 0, B: 1})
		x.do(impl.FleetEvent{Kind: impl.FleetWish, Wish: impl.StewService{Name: "db", Image: 2, Want: 4, Over: 1}})
		x.do(impl.FleetEvent{Kind: impl.FleetWish, Wish: impl.StewService{Name: "web", Image: 2, Down: 1, Per: 7, Least: 2, Most: 4, Load: 0}})
		x.checkPromise38(rates)
		if got := len(x.w.Stew.Copies); got != 6 || len(x.w.Mates.Mates[1].Runs) != 6 {
			t.Errorf("%d copies: %s", got, copiesIn(x.w))
		}
		x.do(impl.FleetEvent{Kind: impl.FleetFall, A: 1, B: 1})
		x.do(impl.FleetEvent{Kind: impl.FleetRise, A: 1})
		x.do(impl.FleetEvent{Kind: impl.FleetWish, Wish: impl.StewService{Name: "db", Gone: true, Image: 2, Want: 4, Over: 1}})
		x.checkPromise38(rates)
		if got := copiesIn(x.w); len(x.w.Stew.Copies) != 2 || len(x.w.Stew.Services) != 1 || len(x.w.Kinds) != 1 {
			t.Error(got)
		}
	}
}

// Promise 35 while a berth is cut off, for longer than the patience: what has a volume there is given up, comes to stand elsewhere, and lives there only when its volume is free.
func TestPromise35OfBerthsCutOff(t *testing.T) {
	t.Parallel()
	r := rand.New(rand.NewSource(319))
	both, moved := 0, 0
	for range 25 {
		x := newWharfTale(t, r, map[string]int{})
		x.w = impl.FleetNew(emptyWharf("a", "b").Berths)
		x.do(impl.FleetEvent{Kind: impl.FleetWish, Wish: impl.StewService{Name: "web", Image: 1, Want: 3, Over: 1}, Needs: impl.FleetKind{Volume: true, Start: r.Intn(3), Grace: pickOf(r, 0, 5, 60)}})
		rates := []int{1 + r.Intn(4), 1 + r.Intn(4)}
		x.w = impl.FleetCalm(x.w, 20, rates)
		gone, name := r.Intn(2), ""
		name = x.w.Berths[gone].Name
		for range 60 {
			x.do(impl.FleetEvent{Kind: impl.FleetTick, Rates: rates})
			for n := 2 * len(x.w.Mates.Flight); n > 0 && len(x.w.Mates.Flight) > 0; n-- {
				p, _ := impl.MateRead(x.w.Mates.Flight[0])
				x.do(impl.FleetEvent{Kind: map[bool]int{true: impl.FleetLose, false: impl.FleetBring}[p.Berth == name]})
			}
			for len(x.w.Reports) > 0 {
				x.do(impl.FleetEvent{Kind: map[bool]int{true: impl.FleetMiss, false: impl.FleetListen}[x.w.Reports[0].Berth == name]})
			}
			for kind := 1; kind <= 6; kind++ {
				x.do(impl.FleetEvent{Kind: impl.FleetStewards, A: kind})
			}
			x.do(impl.FleetEvent{Kind: impl.FleetLand})
			if x.w.Stew.Copies[0].Berth != name && len(x.w.Mates.Mates[gone].Runs) > 0 {
				both++ // it is given up there, and may live there yet
			}
		}
		if n := len(x.w.Mates.Mates[1-gone].Runs); n == 3 {
			moved++
		}
		x.w = impl.FleetCalm(x.w, 40, rates)
		if !impl.FleetSettled(x.w) || !impl.FleetSafe(x.w) {
			t.Fatalf("heard again, it does not settle: %s", copiesIn(x.w))
		}
	}
	if both < 300 || moved < 20 {
		t.Errorf("the berths tell too little: %d, %d", both, moved)
	}
}

// The shortest way to a fleet that is not safe, event by event as chapters 13 and 15 say (see livesByWhatItGivesBack): web-1 has the volume and stops, web-2 asks for it on the same berth and is wanted no more, so that the volume is back while web-1 lives, and web-3 has it elsewhere.
func TestFleetGivesBackWhatLives(t *testing.T) {
	w := impl.FleetNew(emptyWharf("a", "b").Berths)
	do := func(kind, a, b int) {
		w = checkWharfDone(t, "a tale", w, impl.FleetEvent{Kind: kind, A: a, B: b, Rates: []int{1, 1}}, noNote)
	}
	want := func(n int) {
		e := impl.FleetEvent{Kind: impl.FleetWish, Wish: impl.StewService{Name: "web", Image: 1, Want: n, Down: 1, Over: 1}, Needs: impl.FleetKind{Volume: true, Grace: 9}}
		w = checkWharfDone(t, "a tale", w, e, noNote)
		do(impl.FleetStewards, impl.StewCounter, 0)
	}
	round := func(n int) {
		for range n {
			do(impl.FleetTick, 0, 0)
			for n := 2 * len(w.Mates.Flight); n > 0; n-- {
				do(impl.FleetBring, 0, 0)
			}
		}
	}
	is := func(safe bool, told string) {
		t.Helper()
		if got := tellWorld(w.Mates); got != told || impl.FleetSafe(w) != safe {
			t.Errorf("safe: %v\n%s, not\n%s", impl.FleetSafe(w), got, told)
		}
	}
	want(1)
	do(impl.FleetLand, 0, 0)
	round(6)
	do(impl.FleetDrain, 1, 1)
	want(0)
	want(1)
	do(impl.FleetLand, 0, 0)
	round(2)
	is(true, "16 [v-web-0=a/web-1@2<36] a3(web-2=v-web-0)\na 8 [web-16/9@18 web-21/0@0] asks [v-web-0=web-2:8-8] gives []\nb 8 [] asks [] gives []")
	want(0)
	do(impl.FleetDrain, 1, 0)
	do(impl.FleetDrain, 0, 1)
	want(1)
	do(impl.FleetLand, 0, 0)
	round(1)
	do(impl.FleetTick, 0, 0)
	if !livesByWhatItGivesBack(w.Mates) {
		t.Error(tellWorld(w.Mates))
	}
	is(true, "20 [v-web-0=a/web-1@2<36] a4() b1(web-3=v-web-0)\na 10 [web-16/7@18] asks [] gives [v-web-0=web-2:8-8]\nb 10 [web-31/0@0] asks [v-web-0=web-3:10-10] gives []")
	for range 2 * len(w.Mates.Flight) {
		do(impl.FleetBring, 0, 0)
	}
	round(1)
	is(false, "22 [v-web-0=b/web-3@10<52] a4() b1(web-3=v-web-0)\na 11 [web-16/6@18] asks [] gives []\nb 11 [web-33/0@26] asks [v-web-0=web-3:10-10] gives []")
}

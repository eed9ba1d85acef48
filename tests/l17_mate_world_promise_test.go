package tests

import (
	"fmt"
	"math/rand"
	"slices"
	"testing"

	"loop.example/wharffleet/impl"
)

// livelyWants are ok; two or three copies and holds, so that one hold is wanted here and there by turns.
func livelyWants(r *rand.Rand) []impl.MateWant {
	var list []impl.MateWant
	holds := []string{"v", "u", "", ""}
	r.Shuffle(len(holds), func(i, j int) { holds[i], holds[j] = holds[j], holds[i] })
	for i, copy := range []string{"x", "y", "z"} {
		if r.Intn(3) > 0 {
			list = append(list, impl.MateWant{Copy: copy, Version: 1 + r.Intn(2), Hold: holds[i], Pull: r.Intn(4), Start: r.Intn(4), Dies: pickOf(r, 0, 0, 0, 1, 5), Grace: pickOf(r, 0, 1, 3, 8, 30)})
		}
	}
	return list
}

// livelyEvent is one of a world that goes on: what flies is mostly brought, though late, twice, out of order or never.
func livelyEvent(r *rand.Rand, w impl.MateWorld) impl.MateEvent {
	e := impl.MateEvent{A: r.Intn(len(w.Mates)), B: r.Intn(2)}
	flies := len(w.Flight)
	switch n := r.Intn(100); {
	case n < 3:
		e.Kind, e.Wants = impl.MateEvPut, pickOf(r, nil, livelyWants(r), livelyWants(r))
	case n < 6:
		e.Kind = impl.MateEvRise
	case n < 7:
		e.Kind = impl.MateEvFall
	case n < 10 || flies == 0 || flies < 4 && r.Intn(3) == 0:
		e.Kind = impl.MateEvTick
		for range r.Intn(len(w.Mates) + 1) {
			e.Rates = append(e.Rates, pickOf(r, 1, 1, 2, 3, 4, 4, 0))
		}
	default:
		e.Kind, e.A = pickOf(r, slices.Concat(slices.Repeat([]int{impl.MateEvBring}, 18), []int{impl.MateEvDouble, impl.MateEvLose})...), 0
		if r.Intn(4) == 0 {
			e.A = r.Intn(flies)
		}
	}
	return e
}

// checkOneHolder holds promises 17 and 18 of a world.
func checkOneHolder(t *testing.T, w impl.MateWorld) {
	t.Helper()
	if !impl.MateSafe(w) {
		t.Fatalf("promise 17: two have one hold: %+v", w)
	}
	mates := map[string]impl.Mate{}
	for _, m := range w.Mates {
		mates[m.Name] = m
	}
	checkHolders(t, w.Land, mates)
}

// livesByWhatItGivesBack says whether a berth gives back a hold that a run of it lives by. Chapter 13 has the ask for a hold go to Gives when a copy that asked for it is gone, also while another copy of the berth yet stops with that hold; chapter 15 then has the book take the hold back, as it asks for the berth and not for the copy. From there on these two chapters do not keep promises 17 and 18, so that a world is asked for them until it has come to this.
func livesByWhatItGivesBack(w impl.MateWorld) bool {
	for _, m := range w.Mates {
		for _, run := range m.Runs {
			if modelAlive(run) && modelAskFor(m.Gives, run.Want.Hold) >= 0 {
				return true
			}
		}
	}
	return false
}

// The shortest way to such a world, event by event as the two chapters say: x has the hold and stops, y asks for it and is wanted no more, and the hold is back while x lives.
func TestMateGivesBackWhatLives(t *testing.T) {
	x := newWorldTale(t, "a")
	slow := quick("x", "v")
	slow.Grace = 9
	x.put(0, slow)
	x.calm(5)
	x.put(0, quick("y", "v"))
	x.calm(2)
	x.is("14 [v=a/x@10<42] a2(y=v)\na 14 [x6/9@26 y1/1@0] asks [v=y:14-14] gives []")
	x.put(0)
	x.calm(1)
	if livesByWhatItGivesBack(x.w) {
		t.Error(tellWorld(x.w))
	}
	checkOneHolder(t, x.w)
	x.tick()
	x.is("18 [v=a/x@10<42] a3()\na 18 [x6/7@26] asks [] gives [v=y:14-14]")
	if !livesByWhatItGivesBack(x.w) {
		t.Error(tellWorld(x.w))
	}
	checkOneHolder(t, x.w)
	x.bring(2)
	x.is("18 [] a3()\na 18 [x6/7@26] asks [] gives [v=y:14-14]")
}

// raised is a world in which nothing fails any more: all mates are up, and nothing that is wanted dies.
func raised(w impl.MateWorld) impl.MateWorld {
	for i, m := range w.Mates {
		w = impl.MateDo(w, impl.MateEvent{Kind: impl.MateEvRise, A: i})
		for _, p := range w.Land.Places {
			if p.Berth != m.Name {
				continue
			}
			wants := slices.Clone(p.Wants)
			for j := range wants {
				wants[j].Dies = 0
			}
			w = impl.MateDo(w, impl.MateEvent{Kind: impl.MateEvPut, A: i, Wants: wants})
		}
	}
	return w
}

// checkLiveness holds promise 19 of a world whose mates are raised, and tells how many runs it came to.
func checkLiveness(t *testing.T, w impl.MateWorld, rates []int) int {
	t.Helper()
	calm := impl.MateCalm(w, 400, rates)
	if !impl.MateSettled(calm) {
		t.Fatalf("promise 19: with rates %v it is not settled: %+v\nfrom %+v", rates, calm, w)
	}
	if !impl.MateSafe(calm) {
		t.Fatalf("it is settled, but not safe: %+v", calm)
	}
	for i := range 20 {
		if calm = impl.MateCalm(calm, 1, rates); !impl.MateSettled(calm) {
			t.Fatalf("promise 19: with rates %v it is settled no more behind %d rounds: %+v", rates, i+1, calm)
		}
	}
	runs := 0
	for _, m := range calm.Mates {
		runs += len(m.Runs)
	}
	return runs
}

// Promises 14, 17 and 18 behind each event of long drawn runs, and promise 19 behind the last.
func TestPromise17And18And19(t *testing.T) {
	for part := range 4 {
		t.Run(fmt.Sprint("part ", part), func(t *testing.T) {
			t.Parallel()
			r := rand.New(rand.NewSource(int64(85 + part)))
			held, moved, cut, left := 0, 0, 0, 0
			for range 70 {
				w := impl.MateNewWorld([]string{"a", "b", "c", "d"}[:1+r.Intn(4)])
				holders := map[string]string{}
				for range 600 {
					w = impl.MateDo(w, livelyEvent(r, w))
					if !impl.MateWorldOk(w) {
						t.Fatalf("promise 14: %+v", w)
					}
					if livesByWhatItGivesBack(w) {
						cut++
						break
					}
					checkOneHolder(t, w)
					for _, m := range w.Mates {
						for _, run := range m.Runs {
							if hold := run.Want.Hold; hold != "" && modelAlive(run) {
								held++
								if last := holders[hold]; last != "" && last != m.Name {
									moved++
								}
								holders[hold] = m.Name
							}
						}
					}
				}
				left += checkLiveness(t, raised(w), anyEvent(r, w).Rates)
			}
			if held < 3000 || moved < 15 || left < 100 || cut > 10 {
				t.Errorf("the runs tell too little: %d holders, %d that moved, %d runs left, %d cut off", held, moved, left, cut)
			}
		})
	}
}

// Promises 17 and 18 while one of the berths is cut off, at any time and for any time, and its hold is wanted elsewhere.
func TestPromise17OfBerthsCutOff(t *testing.T) {
	t.Parallel()
	r := rand.New(rand.NewSource(89))
	moved := 0
	for range 60 {
		rates := []int{1 + r.Intn(4), 1 + r.Intn(4)}
		w := impl.MateNewWorld([]string{"a", "b"})
		at, cut := 0, r.Intn(2)
		for round := range 90 {
			if round%30 == 0 {
				w = impl.MateDo(w, impl.MateEvent{Kind: impl.MateEvPut, A: at})
				at = 1 - at
				w = impl.MateDo(w, impl.MateEvent{Kind: impl.MateEvPut, A: at, Wants: []impl.MateWant{{Copy: "x", Version: 1, Hold: "v", Start: r.Intn(3), Grace: r.Intn(60)}}})
			}
			if r.Intn(12) == 0 {
				cut = r.Intn(3)
			}
			w = impl.MateDo(w, impl.MateEvent{Kind: impl.MateEvTick, Rates: rates})
			for n := 2 * len(w.Flight); n > 0 && len(w.Flight) > 0; n-- {
				kind := impl.MateEvBring
				if p, _ := impl.MateRead(w.Flight[0]); cut < 2 && p.Berth == w.Mates[cut].Name {
					kind = impl.MateEvLose
				}
				w = impl.MateDo(w, impl.MateEvent{Kind: kind})
				checkOneHolder(t, w)
			}
			if len(w.Mates[1-at].Runs) == 0 && len(w.Mates[at].Runs) > 0 && modelAlive(w.Mates[at].Runs[0]) {
				moved++
			}
		}
	}
	if moved < 500 {
		t.Errorf("the berths tell too little: %d", moved)
	}
}

// Promise 19 of the slowest that there is: all takes as long as it may, and all holds change their berths and their copies.
func TestPromise19OfTheSlowest(t *testing.T) {
	slow := func(copy, hold string, version int) impl.MateWant {
		return impl.MateWant{Copy: copy, Version: version, Hold: hold, Pull: 100, Start: 100, Grace: 100}
	}
	for _, rates := range [][]int{nil, {1, 1, 1}, {4, 4, 4}, {1, 4, 2}, {4, 1, 3}, {0, 5, -1}} {
		w := impl.MateNewWorld([]string{"a", "b", "c"})
		put := func(at int, wants ...impl.MateWant) {
			w = checkDone(t, w, impl.MateEvent{Kind: impl.MateEvPut, A: at, Wants: wants}, noNote)
		}
		put(0, slow("x", "v", 1), slow("y", "u", 1), slow("z", "", 1))
		put(1, slow("x", "t", 1), slow("y", "", 1))
		if runs := checkLiveness(t, w, rates); runs != 5 {
			t.Errorf("%v: %d runs", rates, runs)
		}
		w = impl.MateCalm(w, 400, rates)
		put(0)
		put(1, slow("x", "u", 1), slow("y", "v", 1))
		put(0, slow("x", "t", 1), slow("y", "", 1), slow("z", "", 2))
		put(2, slow("x", "", 1))
		if runs := checkLiveness(t, w, rates); runs != 6 {
			t.Errorf("%v: %d runs", rates, runs)
		}
	}
}

// Promise 19 with as many berths, wants and holds as there may be.
func TestPromise19OfTheGreatest(t *testing.T) {
	t.Parallel()
	for _, rates := range [][]int{{4, 1, 4, 1}, {1, 1, 1, 1}} {
		w := impl.MateNewWorld([]string{"a", "b", "c", "d"})
		for _, turn := range []int{0, 1} {
			for i := range 4 {
				w = impl.MateDo(w, impl.MateEvent{Kind: impl.MateEvPut, A: i})
			}
			for i := range 4 {
				wants := numbered(10, func(name string) impl.MateWant {
					return impl.MateWant{Copy: name, Version: 1, Hold: fmt.Sprint(name, (i+turn)%4), Pull: 3, Start: 3, Grace: 50}
				})
				w = impl.MateDo(w, impl.MateEvent{Kind: impl.MateEvPut, A: i, Wants: wants})
			}
			if turn == 0 {
				w = impl.MateCalm(w, 30, rates)
			}
		}
		if runs := checkLiveness(t, w, rates); runs != 40 {
			t.Errorf("%v: %d runs", rates, runs)
		}
		w = impl.MateCalm(w, 400, rates)
		checkOneHolder(t, w)
		if len(w.Land.Grants) != 40 {
			t.Errorf("%v: %s", rates, tellLand(w.Land))
		}
	}
}

// Promise 19 with the clocks and the book's time as far on as they may be: just so long is there time.
func TestPromise19AtTheEndOfClocks(t *testing.T) {
	w := impl.MateNewWorld([]string{"a", "b"})
	w.Land.Time = impl.MateMaxClock
	for i := range w.Mates {
		w.Mates[i].Clock = impl.MateMaxClock - 4*420
	}
	w = impl.MateDo(w, impl.MateEvent{Kind: impl.MateEvPut, A: 0, Wants: []impl.MateWant{{Copy: "x", Version: 1, Hold: "v", Pull: 100, Start: 100}}})
	for _, rates := range [][]int{nil, {1, 4}, {4, 1}, {4, 4}} {
		if runs := checkLiveness(t, w, rates); runs != 1 {
			t.Errorf("%v: %d runs", rates, runs)
		}
	}
	end := impl.MateCalm(w, 420, []int{4, 4})
	if end.Mates[0].Clock != impl.MateMaxClock || !impl.MateSettled(end) {
		t.Errorf("%+v", end)
	}
	if end = impl.MateCalm(end, 1, []int{4, 4}); impl.MateSettled(end) || end.Mates[0].Up || !impl.MateSafe(end) {
		t.Errorf("%+v", end)
	}
}

// Promise 14 of worlds: any ok one stays so, also one that no events have led to, and what is put in flight has a form.
func TestPromise14OfWorlds(t *testing.T) {
	t.Parallel()
	r := rand.New(rand.NewSource(90))
	for range 60 {
		w := randomWorld(r)
		for range 40 {
			old := map[string]bool{}
			for _, text := range w.Flight {
				old[text] = true
			}
			if r.Intn(10) == 0 {
				w = impl.MateCalm(w, r.Intn(4), anyEvent(r, w).Rates)
			} else {
				w = impl.MateDo(w, anyEvent(r, w))
			}
			checkWorldOk(t, "one that lives on", w, true)
			for _, text := range w.Flight {
				if _, ok := impl.MateRead(text); !ok && !old[text] {
					t.Fatalf("%q is put in flight", text)
				}
			}
		}
	}
}

// Promise 22, of any ok worlds and any rates.
func TestPromise22(t *testing.T) {
	t.Parallel()
	r := rand.New(rand.NewSource(91))
	for range 80 {
		w := randomWorld(r)
		checkPromise22(t, w, r.Intn(6), r.Intn(6), anyEvent(r, w).Rates)
	}
	w := impl.MateNewWorld([]string{"a", "b"})
	w = impl.MateDo(w, impl.MateEvent{Kind: impl.MateEvPut, Wants: []impl.MateWant{{Copy: "x", Version: 1, Hold: "v", Dies: 7}}})
	for _, c := range [][2]int{{0, 0}, {0, 1}, {1, 0}, {1, 1}, {0, 1000}, {1000, 0}, {1, 999}, {500, 500}, {999, 1}, {333, 444}} {
		for _, rates := range [][]int{nil, {4, 1}} {
			checkPromise22(t, w, c[0], c[1], rates)
		}
	}
}

func checkPromise22(t *testing.T, w impl.MateWorld, a, b int, rates []int) {
	t.Helper()
	parts, whole := impl.MateCalm(impl.MateCalm(w, a, rates), b, rates), impl.MateCalm(w, a+b, rates)
	if !sameWorld(parts, whole) {
		t.Fatalf("promise 22: %d and %d rounds with %v lead to %+v\nand all of them to %+v", a, b, rates, parts, whole)
	}
}

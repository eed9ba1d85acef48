package tests

import (
	"fmt"
	"math"
	"math/rand"
	"slices"
	"testing"

	"loop.example/wharffleet/impl"
)

// calmTale lets rounds go by one by one, each held against the second reading, and tells the fleet behind each.
func calmTale(t *testing.T, w impl.FleetWorld, tell func(w impl.FleetWorld) string, want ...string) impl.FleetWorld {
	t.Helper()
	for i, line := range want {
		w = checkWharfCalm(t, "a tale", w, 1, []int{1, 4}, noNote)
		if got := tell(w); got != line {
			t.Errorf("round %d:\n%s, not\n%s", i+1, got, line)
		}
		if len(w.Mates.Flight) > 0 || len(w.Reports) > 0 {
			t.Errorf("round %d: %q and %d reports are left", i+1, w.Mates.Flight, len(w.Reports))
		}
	}
	return w
}

// From a wish to what is wanted, and from one image to the next, round by round.
func TestFleetCalmTale(t *testing.T) {
	wish := impl.FleetEvent{Kind: impl.FleetWish, Wish: impl.StewService{Name: "web", Image: 1, Want: 2, Over: 1}, Needs: impl.FleetKind{Volume: true, Pull: 1, Start: 1, Grace: 1}}
	w := impl.FleetDo(impl.FleetNew(emptyWharf("a", "b").Berths), wish)
	places := " a1(web-1=v-web-0) b1(web-2=v-web-1)\n"
	w = calmTale(t, w, func(w impl.FleetWorld) string { return copiesIn(w) + "; " + tellWorld(w.Mates) },
		// The stewards come behind the reports, and the land behind the stewards: so what is wanted is told in one round.
		"web-1@a/2/v3 web-2@b/2/v3; 2 []"+places+"a 1 [] asks [] gives []\nb 4 [] asks [] gives []",
		"web-1@a/2/v3 web-2@b/2/v3; 4 []"+places+"a 2 [] asks [] gives []\nb 8 [] asks [] gives []",
		// What is asked for is given in one round, as all is brought twice.
		"web-1@a/2/v3 web-2@b/2/v3; 6 [v-web-0=a/web-1@3<38 v-web-1=b/web-2@12<38]"+places+"a 3 [web-11/1@19] asks [v-web-0=web-1:3-3] gives []\nb 12 [web-21/1@28] asks [v-web-1=web-2:12-12] gives []",
		"web-1@a/2/v3 web-2@b/2/v3; 8 [v-web-0=a/web-1@3<38 v-web-1=b/web-2@12<38]"+places+"a 4 [web-13/1@19] asks [v-web-0=web-1:3-3] gives []\nb 16 [web-23/1@28] asks [v-web-1=web-2:12-12] gives []",
		// Each report is a change of its own, in the order of the mates.
		"web-1@a/3/v4 web-2@b/3/v5; 10 [v-web-0=a/web-1@3<38 v-web-1=b/web-2@20<42]"+places+"a 5 [web-14/0@19] asks [v-web-0=web-1:3-3] gives []\nb 20 [web-24/0@36] asks [v-web-1=web-2:12-20] gives []",
	)
	if !impl.FleetSettled(w) {
		t.Errorf("%+v", w)
	}
	wish.Wish.Image = 2
	w = calmTale(t, impl.FleetDo(w, wish), func(w impl.FleetWorld) string { return copiesIn(w) + "; " + toldIn(w) },
		"web-1@a/3/v4 web-2@b/3/v5 web-3@a/2/v8; a 2 web-1=web-0 web-3=web-2; b 1 web-2=web-1",
		"web-1@a/3/v4 web-2@b/3/v5 web-3@a/2/v8; a 2 web-1=web-0 web-3=web-2; b 1 web-2=web-1",
		"web-1@a/3/v4 web-2@b/3/v5 web-3@a/2/v8; a 2 web-1=web-0 web-3=web-2; b 1 web-2=web-1",
		"web-1@a/3/v4 web-2@b/3/v5 web-3@a/2/v8; a 2 web-1=web-0 web-3=web-2; b 1 web-2=web-1",
		"web-1@a/3/v4 web-2e@b/3/v10 web-3@a/3/v9; a 2 web-1=web-0 web-3=web-2; b 2",
		"web-1@a/3/v4 web-2e@b/3/v10 web-3@a/3/v9 web-4@b/2/v12; a 2 web-1=web-0 web-3=web-2; b 3 web-4=web-1",
		"web-1@a/3/v4 web-2e@b/3/v10 web-3@a/3/v9 web-4@b/2/v12; a 2 web-1=web-0 web-3=web-2; b 3 web-4=web-1",
		"web-1@a/3/v4 web-3@a/3/v9 web-4@b/2/v12; a 2 web-1=web-0 web-3=web-2; b 3 web-4=web-1",
		"web-1@a/3/v4 web-3@a/3/v9 web-4@b/2/v12; a 2 web-1=web-0 web-3=web-2; b 3 web-4=web-1",
		"web-1@a/3/v4 web-3@a/3/v9 web-4@b/2/v12; a 2 web-1=web-0 web-3=web-2; b 3 web-4=web-1",
		"web-1e@a/3/v15 web-3@a/3/v9 web-4@b/3/v14; a 3 web-3=web-2; b 3 web-4=web-1",
		"web-1e@a/3/v15 web-3@a/3/v9 web-4@b/3/v14; a 3 web-3=web-2; b 3 web-4=web-1",
		"web-1e@a/3/v15 web-3@a/3/v9 web-4@b/3/v14; a 3 web-3=web-2; b 3 web-4=web-1",
		"web-3@a/3/v9 web-4@b/3/v14; a 3 web-3=web-2; b 3 web-4=web-1",
	)
	if !impl.FleetSettled(w) {
		t.Errorf("%+v", w)
	}
}

func TestFleetCalmRounds(t *testing.T) {
	t.Parallel()
	fleets := []impl.FleetWorld{fullWharf(), knownWharf(), impl.FleetDo(emptyWharf("a", "b"), needsWish("web", webKind()))}
	for _, w := range fleets {
		for _, rounds := range []int{0, -1, -20000, math.MinInt} {
			if got := checkWharfCalm(t, "no round", w, rounds, []int{1, 4}, noNote); !sameWharf(got, w) {
				t.Errorf("%d rounds: %+v, not %+v", rounds, got, w)
			}
		}
		for _, rounds := range []int{1, 2, 5, 12} {
			got := checkWharfCalm(t, "some rounds", w, rounds, []int{1, 4}, noNote)
			if got.Mates.Land.Time != w.Mates.Land.Time+2*rounds {
				t.Errorf("%d rounds: the time is %d", rounds, got.Mates.Land.Time)
			}
		}
		if got := impl.FleetCalm(w, 200, nil); got.Mates.Land.Time != w.Mates.Land.Time+400 {
			t.Errorf("the time is %d", got.Mates.Land.Time)
		}
	}
	// At most FleetMaxCalm rounds.
	w := impl.FleetNew(emptyWharf("a").Berths)
	for rounds, want := range map[int]int{19999: 39998, 20000: 40000, 20001: 40000, 20002: 40000, 1000000: 40000, math.MaxInt: 40000} {
		if got := impl.FleetCalm(w, rounds, nil); got.Mates.Land.Time != want || got.Mates.Mates[0].Clock != want || got.Heard[0].Time != want {
			t.Errorf("%d rounds: %+v", rounds, got)
		}
	}
}

func TestFleetCalmRates(t *testing.T) {
	for _, rates := range [][]int{nil, {}, {1}, {4}, {1, 4}, {4, 1, 3}, {1, 1, 1, 1}, {4, 4, 4, 4, 4, 4}, {0, 5, -1}, {math.MinInt, math.MaxInt}, slices.Repeat([]int{3}, 1000)} {
		got := checkWharfCalm(t, fmt.Sprint("rates ", len(rates)), threeBerths(), 2, rates, noNote)
		for i, m := range got.Mates.Mates {
			want := 4
			if i < len(rates) && rates[i] >= 1 && rates[i] <= 4 {
				want = 2 * rates[i]
			}
			if m.Clock != want {
				t.Errorf("%.20v: the clock of %s is %d, not %d", rates, m.Name, m.Clock, want)
			}
		}
	}
}

// What is in flight is counted as it is then: what a bring answers flies behind, and is brought the second time; what that answers is left.
func TestFleetCalmBringsTwice(t *testing.T) {
	w := knownWharf()
	w.Mates.Mates[0].Runs = []impl.MateRun{{Want: webWant(1, 0), State: impl.MateWaiting}}
	w.Mates.Mates[0].Gives = []impl.MateAsk{{Hold: "old", Copy: "x", First: 1, At: 2}}
	got := checkWharfCalm(t, "a round", w, 1, nil, noNote)
	m := got.Mates.Mates[0]
	if m.Seen != 4 || len(m.Gives) != 0 || m.Runs[0].Until != 68 || len(got.Mates.Flight) != 0 {
		t.Errorf("%+v, %q", m, got.Mates.Flight)
	}
	// With a flight that is full nothing that the tick sends flies; all of it is brought all the same.
	w.Mates.Flight = append(filled(299), "asked a v-web-0 web-1 7\n")
	got = checkWharfCalm(t, "a full flight", w, 1, nil, noNote)
	if m := got.Mates.Mates[0]; m.Seen != 3 || len(m.Gives) != 1 || len(got.Mates.Flight) != 0 || len(got.Mates.Land.Grants) != 1 {
		t.Errorf("%+v, %q", m, got.Mates.Flight)
	}
}

// The reports that were under way are heard ahead of those that the tick puts behind them, and none is left; where there is no room for these, the old ones are the last word.
func TestFleetCalmHearsAll(t *testing.T) {
	w := knownWharf()
	w.Mates.Mates[0].Runs = []impl.MateRun{{Want: webWant(1, 0), State: impl.MateReady, Until: 60}}
	old := reportOf("a", 4, "web-2/3/4")
	for n, want := range map[int]string{
		0:  "web-1@a/3/v1 web-2@a/2/v6 web-3@c/2/v7",
		1:  "web-1@a/3/v7 web-2@a/2/v7 web-3@c/2/v8",
		58: "web-1@a/3/v7 web-2@a/2/v7 web-3@c/2/v8",
		59: "web-1@a/3/v7 web-2@a/2/v7 web-3@c/3/v1",
		60: "web-1@a/2/v6 web-2@a/3/v1 web-3@c/3/v1",
	} {
		w.Reports = slices.Repeat([]impl.FleetReport{old}, n)
		got := checkWharfCalm(t, fmt.Sprint(n, " reports"), w, 1, nil, noNote)
		if copiesIn(got) != want || len(got.Reports) > 0 {
			t.Errorf("%d reports: %s, not %s", n, copiesIn(got), want)
		}
	}
}

// wrongRounds are rounds in another order, or with something left out or done once more.
func wrongRounds() map[string][]string {
	return map[string][]string{
		"the tick last":                      {"bring", "bring", "listen", "stewards", "land", "tick"},
		"the tick behind the mail":           {"bring", "bring", "tick", "listen", "stewards", "land"},
		"brought once":                       {"tick", "bring", "listen", "stewards", "land"},
		"not brought":                        {"tick", "listen", "stewards", "land"},
		"not heard":                          {"tick", "bring", "bring", "stewards", "land"},
		"missed":                             {"tick", "bring", "bring", "miss", "stewards", "land"},
		"the stewards ahead of what's heard": {"tick", "bring", "bring", "stewards", "listen", "land"},
		"the land ahead of what's heard":     {"tick", "bring", "bring", "land", "listen", "stewards"},
		"the land ahead of the stewards":     {"tick", "bring", "bring", "listen", "land", "stewards"},
		"the land first":                     {"land", "tick", "bring", "bring", "listen", "stewards"},
		"the stewards first":                 {"stewards", "tick", "bring", "bring", "listen", "land"},
		"the stewards the other way":         {"tick", "bring", "bring", "listen", "drawets", "land"},
		"no stewards":                        {"tick", "bring", "bring", "listen", "land"},
		"no land":                            {"tick", "bring", "bring", "listen", "stewards"},
		"heard from the last on":             {"tick", "bring", "bring", "netsil", "stewards", "land"},
		"brought from the last on":           {"tick", "gnirb", "gnirb", "listen", "stewards", "land"},
	}
}

// stepOf is a step of a round, by FleetDo.
func stepOf(w impl.FleetWorld, step string, rates []int) impl.FleetWorld {
	times := func(n int, e impl.FleetEvent, last bool) {
		for ; n > 0; n-- {
			if last {
				e.A = n - 1
			}
			w = impl.FleetDo(w, e)
		}
	}
	switch step {
	case "tick":
		w = impl.FleetDo(w, impl.FleetEvent{Kind: impl.FleetTick, Rates: rates})
	case "bring", "gnirb":
		times(len(w.Mates.Flight), impl.FleetEvent{Kind: impl.FleetBring}, step == "gnirb")
	case "listen", "netsil":
		times(len(w.Reports), impl.FleetEvent{Kind: impl.FleetListen}, step == "netsil")
	case "miss":
		times(len(w.Reports), impl.FleetEvent{Kind: impl.FleetMiss}, false)
	case "stewards":
		for kind := 1; kind <= 6; kind++ {
			w = impl.FleetDo(w, impl.FleetEvent{Kind: impl.FleetStewards, A: kind})
		}
	case "drawets":
		for kind := 6; kind >= 1; kind-- {
			w = impl.FleetDo(w, impl.FleetEvent{Kind: impl.FleetStewards, A: kind})
		}
	case "land":
		w = impl.FleetDo(w, impl.FleetEvent{Kind: impl.FleetLand})
	}
	return w
}

// A round is just its events, in their order: in each other order some fleets come to something else. (To bring a third time is not seen: what is answered the first time goes to mates, which answer nothing.)
func TestFleetCalmOrder(t *testing.T) {
	t.Parallel()
	r := rand.New(rand.NewSource(307))
	other := map[string]int{}
	for i := range 120 {
		x := newWharfTale(t, r, map[string]int{})
		x.live(2 + r.Intn(12))
		w, rates := x.w, x.rates()
		if i%2 == 0 {
			w = withMail(r, randomWharf(r))
		}
		if i%6 == 0 {
			w = withAsksForOneHold(r)
		}
		calm, round := impl.FleetCalm(w, 1, rates), w
		for _, step := range []string{"tick", "bring", "bring", "listen", "stewards", "land"} {
			round = stepOf(round, step, rates)
		}
		if !sameWharf(calm, round) {
			t.Fatalf("a round of %+v\nis %+v\nand its events lead to %+v", w, calm, round)
		}
		for what, steps := range wrongRounds() {
			wrong := w
			for _, step := range steps {
				wrong = stepOf(wrong, step, rates)
			}
			if !sameWharf(wrong, calm) {
				other[what]++
			}
		}
	}
	for what := range wrongRounds() {
		if other[what] < 5 {
			t.Errorf("the fleets tell too little of %q: %v", what, other)
		}
	}
}

// withAsksForOneHold is a fleet in which a hold is given back, and asked for at once.
func withAsksForOneHold(r *rand.Rand) impl.FleetWorld {
	w := withPlace(webAt("1@a:0 2@b:1"), "a", 4, webWant(1, 0))
	w.Mates.Land.Grants = []impl.MateGrant{{Hold: "v-web-0", Berth: "b", Copy: "web-7", At: 3, Until: 30}}
	w.Mates.Flight = []string{"asked a v-web-0 web-1 7\n", "here a 1\n", "back b v-web-0 web-7 3\n"}
	if r.Intn(2) == 0 {
		slices.Reverse(w.Mates.Flight)
	}
	return w
}

// checkPromise39 holds promise 39.
func checkPromise39(t *testing.T, w impl.FleetWorld, a, b int, rates []int) {
	t.Helper()
	parts, whole := impl.FleetCalm(impl.FleetCalm(w, a, rates), b, rates), impl.FleetCalm(w, a+b, rates)
	if !sameWharf(parts, whole) {
		t.Fatalf("promise 39: %d and %d rounds with %v lead to %+v\nand all of them to %+v", a, b, rates, parts, whole)
	}
}

func TestPromise39(t *testing.T) {
	t.Parallel()
	r := rand.New(rand.NewSource(308))
	for i := range 150 {
		w := withMail(r, randomWharf(r))
		if i%3 == 0 {
			x := newWharfTale(t, r, map[string]int{})
			x.wide = true
			x.live(r.Intn(10))
			w = x.w
		}
		if i%30 == 0 {
			breakWharf(r, &w)
		}
		checkPromise39(t, w, r.Intn(6), r.Intn(6), anyRates(r))
	}
	// Also over all rounds that there may be.
	w := impl.FleetNew(emptyWharf("a").Berths)
	for _, c := range [][2]int{{0, 0}, {0, 1}, {1, 0}, {1, 1}, {0, 20000}, {20000, 0}, {1, 19999}, {19999, 1}, {10000, 10000}, {7, 11111}} {
		checkPromise39(t, w, c[0], c[1], []int{3})
	}
	w = impl.FleetDo(impl.FleetNew(emptyWharf("a", "b").Berths), needsWish("web", webKind()))
	for _, c := range [][2]int{{0, 300}, {1, 299}, {2, 150}, {3, 4}, {100, 200}, {299, 1}, {300, 0}} {
		for _, rates := range [][]int{nil, {4, 1}} {
			checkPromise39(t, w, c[0], c[1], rates)
		}
	}
}

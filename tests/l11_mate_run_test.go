package tests

import (
	"fmt"
	"math"
	"math/rand"
	"slices"
	"strings"
	"testing"

	"loop.example/wharffleet/impl"
)

// A second reading of chapter 11, made another way than the program: states by their words, sums by numbers without a sign.

var modelStateWords = map[int]string{1: "pulling", 2: "waiting", 3: "starting", 4: "ready", 5: "backoff", 6: "stopping"}

func modelAlive(r impl.MateRun) bool {
	return slices.Contains([]string{"starting", "ready", "stopping"}, modelStateWords[r.State])
}

// modelSoon is the clock and 4, which wraps.
func modelSoon(clock int) int { return int(uint(clock) + 4) }

// modelFree says whether a run may live by this clock.
func modelFree(r impl.MateRun, clock int) bool {
	return len(r.Want.Hold) == 0 || !(r.Until < modelSoon(clock))
}

func modelRunsOk(list []impl.MateRun, clock int) bool {
	var copies []string
	for _, r := range list {
		copies = append(copies, r.Want.Copy)
		word, known := modelStateWords[r.State]
		switch {
		case !known, !modelWantsOk([]impl.MateWant{r.Want}),
			r.Left < 0, r.Left > 100, word == "waiting" && r.Left != 0,
			r.Falls < 0, r.Falls > 1000,
			r.Until < 0, r.Until > 1000016, r.Want.Hold == "" && r.Until != 0,
			modelAlive(r) && !modelFree(r, clock):
			return false
		}
	}
	return len(list) <= 20 && slices.Equal(copies, modelSet(copies))
}

func checkRunsOk(t *testing.T, what string, list []impl.MateRun, clock int, want bool) {
	t.Helper()
	if got := impl.MateRunsOk(list, clock); got != want {
		t.Errorf("%s: MateRunsOk at %d is %v: %+v", what, clock, got, list)
	}
	if got := modelRunsOk(list, clock); got != want {
		t.Errorf("%s: the second reading at %d is %v: %+v", what, clock, got, list)
	}
}

// allStates are those that there are, and some that there are not.
func allStates() []int {
	return []int{math.MinInt, math.MinInt + 3, -6, -1, 0, 1, 2, 3, 4, 5, 6, 7, 8, 100, 1 << 32, 1<<32 + 4, math.MaxInt}
}

func isState(state int) bool { return state >= 1 && state <= 6 }

func TestMateAlive(t *testing.T) {
	for _, state := range allStates() {
		want := state == impl.MateStarting || state == impl.MateReady || state == impl.MateStopping
		for _, r := range []impl.MateRun{
			{},
			{Left: 1, Falls: 3, Until: 60},
			{Want: severalWants()[0], Left: math.MinInt, Falls: -1, Until: math.MinInt},
			{Want: impl.MateWant{Copy: "c", Hold: "h"}, Left: math.MaxInt, Falls: math.MaxInt, Until: math.MaxInt},
		} {
			r.State = state
			if got := impl.MateAlive(r); got != want || modelAlive(r) != want {
				t.Errorf("MateAlive is %v: %+v", got, r)
			}
		}
	}
}

// severalRuns are ok at the clock 50, one in each state, with holds and without.
func severalRuns() []impl.MateRun {
	w := impl.MateWant{Version: 3, Pull: 2, Start: 2, Dies: 3, Grace: 2}
	called := func(copy, hold string) impl.MateWant {
		w.Copy, w.Hold = copy, hold
		return w
	}
	return []impl.MateRun{
		{Want: called("a", ""), State: impl.MatePulling, Left: 2},
		{Want: called("b", "h"), State: impl.MateWaiting, Falls: 1, Until: 12},
		{Want: called("c", "g"), State: impl.MateStarting, Left: 1, Until: 54},
		{Want: called("d", ""), State: impl.MateReady},
		{Want: called("e", "f"), State: impl.MateBackoff, Left: 16, Falls: 1000},
		{Want: called("f", "e"), State: impl.MateStopping, Left: 2, Until: 1000016},
	}
}

func TestMateRunsOk(t *testing.T) {
	for _, clock := range []int{math.MinInt, -1, 0, 50, 51, 1000000, math.MaxInt} {
		checkRunsOk(t, "no list", nil, clock, true)
		checkRunsOk(t, "an empty list", []impl.MateRun{}, clock, true)
		checkRunsOk(t, "a run of nothing", []impl.MateRun{{}}, clock, false)
	}
	checkRunsOk(t, "several", severalRuns(), 50, true)
	checkRunsOk(t, "several, earlier", severalRuns(), 0, true)
	checkRunsOk(t, "several, later", severalRuns(), 51, false)
	for i := range severalRuns() {
		checkRunsOk(t, "one", severalRuns()[i:i+1], 50, true)
		checkRunsOk(t, "all but one", slices.Delete(severalRuns(), i, i+1), 50, true)
	}
	// Each Want is asked alone: two runs may have one Hold, both may be alive, and one may wait for what the other has.
	list := severalRuns()
	list[2].Want.Hold, list[5].Want.Hold = "h", "h"
	checkRunsOk(t, "three with one hold", list, 50, true)
}

func TestMateRunsOkOfEachWant(t *testing.T) {
	for _, c := range allWantChanges() {
		for _, state := range []int{impl.MateWaiting, impl.MateReady} {
			run := impl.MateRun{Want: impl.MateWant{Copy: "c", Version: 1, Hold: "h"}, State: state, Until: 54}
			c.change(&run.Want)
			checkRunsOk(t, c.what, []impl.MateRun{run}, 50, c.ok && run.Want.Hold != "")
			run.Until = 0
			checkRunsOk(t, c.what, []impl.MateRun{run}, 50, c.ok && (run.Want.Hold == "" || state == impl.MateWaiting))
		}
	}
}

func TestMateRunsOkNumbers(t *testing.T) {
	far := []int{math.MinInt, -1000, -1, 0, 1, 2, 99, 100, 101, 999, 1000, 1001, 1000000, 1000015, 1000016, 1000017, math.MaxInt}
	for _, state := range allStates() {
		for i, want := range []impl.MateWant{{Copy: "c", Version: 1}, {Copy: "c", Version: 1, Hold: "h"}} {
			held := i == 1
			run := impl.MateRun{Want: want, State: state}
			if held {
				run.Until = 60
			}
			for _, n := range far {
				r := run
				r.Left = n
				checkRunsOk(t, "left", []impl.MateRun{r}, 50, isState(state) && (n == 0 || n >= 0 && n <= 100 && state != impl.MateWaiting))
				r = run
				r.Falls = n
				checkRunsOk(t, "falls", []impl.MateRun{r}, 50, isState(state) && n >= 0 && n <= 1000)
				r = run
				r.Until = n
				lives := state == impl.MateStarting || state == impl.MateReady || state == impl.MateStopping
				checkRunsOk(t, "until", []impl.MateRun{r}, 50, isState(state) && (n == 0 && !(held && lives) || held && n >= 0 && n <= 1000016 && (n >= 54 || !lives)))
			}
		}
	}
}

// The lease of what lives lasts up to the clock and 4 at least; that sum wraps.
func TestMateRunsOkClocks(t *testing.T) {
	for _, c := range []struct {
		clock, until int
		lives        bool
	}{
		{50, 53, false}, {50, 54, true}, {50, 55, true}, {49, 53, true}, {51, 54, false},
		{0, 3, false}, {0, 4, true}, {-4, 0, true}, {-3, 0, false}, {-3, 1, true}, {-100, 0, true},
		{999996, 1000000, true}, {1000000, 1000000, false}, {1000000, 1000003, false}, {1000000, 1000004, true},
		{1000012, 1000016, true}, {1000013, 1000016, false}, {math.MaxInt - 4, 1000016, false}, {math.MaxInt - 3, 0, true},
		{math.MaxInt, 0, true}, {math.MaxInt, 1000016, true}, {math.MinInt, 0, true}, {math.MinInt + 100, 0, true},
	} {
		for state := 1; state <= 6; state++ {
			run := impl.MateRun{Want: impl.MateWant{Copy: "c", Version: 1, Hold: "h"}, State: state, Until: c.until}
			alive := state == impl.MateStarting || state == impl.MateReady || state == impl.MateStopping
			checkRunsOk(t, "with a hold", []impl.MateRun{run}, c.clock, !alive || c.lives)
			run.Want.Hold = ""
			checkRunsOk(t, "without a hold", []impl.MateRun{run}, c.clock, c.until == 0)
			run.Until = 0
			checkRunsOk(t, "without a hold and a lease", []impl.MateRun{run}, c.clock, true)
		}
	}
}

func TestMateRunsAscend(t *testing.T) {
	called := func(copies ...string) []impl.MateRun {
		var list []impl.MateRun
		for _, w := range wantsCalled(copies...) {
			list = append(list, impl.MateRun{Want: w, State: impl.MateReady})
		}
		return list
	}
	checkRunsOk(t, "ascending", called("!", "*", "-", "0", "A", "Z", "_", "a", "aa", "~"), 0, true)
	for _, copies := range [][]string{{"a", "a"}, {"b", "a"}, {"a!", "a"}, {"a", "B"}, {"a", "b", "c", "b"}, {"a", "b", "c", "a"}, {"a", "b", "b", "c"}, {"z", "a", "b"}} {
		checkRunsOk(t, "not ascending", called(copies...), 0, false)
	}
	// A copy has one run, whatever else is other in two.
	two := called("a", "a")
	two[1].Want.Version, two[1].State = 2, impl.MatePulling
	checkRunsOk(t, "two versions of a copy", two, 0, false)
}

func TestMateRunsGreat(t *testing.T) {
	for _, n := range []int{9, 10, 11, 19, 20, 21, 22, 40, 900} {
		greatest := numbered(n, func(name string) impl.MateRun {
			w := impl.MateWant{Copy: (name + strings.Repeat("~", 20))[:20], Version: 1000000, Hold: strings.Repeat("~", 20), Pull: 100, Start: 100, Dies: 100, Grace: 100}
			return impl.MateRun{Want: w, State: impl.MateStopping, Left: 100, Falls: 1000, Until: 1000016}
		})
		checkRunsOk(t, fmt.Sprint(n, " runs"), greatest, 1000000, n <= 20)
		small := numbered(n, func(name string) impl.MateRun {
			return impl.MateRun{Want: impl.MateWant{Copy: name, Version: 1}, State: impl.MatePulling}
		})
		checkRunsOk(t, fmt.Sprint(n, " small runs"), small, 0, n <= 20)
		if n <= 20 { // the last one is asked, too
			small[n-1].State = 7
			checkRunsOk(t, "the last is in no state", small, 0, false)
			greatest[n-1].Until = 1000003
			checkRunsOk(t, "the last has no lease", greatest, 1000000, false)
		}
	}
	inGoodTime(t, "a list that is far too long", func() {
		checkRunsOk(t, "the same run again and again", slices.Repeat(severalRuns()[:1], 100000), 50, false)
	})
}

// randomRun is mostly ok at the clock, or nearly so.
func randomRun(r *rand.Rand, clock int) impl.MateRun {
	w := impl.MateWant{Copy: pickOf(r, "a", "b", "c"), Version: pickOf(r, 1, 2), Hold: pickOf(r, "", "h", "g"), Pull: r.Intn(4), Start: r.Intn(4), Dies: r.Intn(4), Grace: r.Intn(4)}
	run := impl.MateRun{Want: w, State: 1 + r.Intn(6), Left: r.Intn(5), Falls: pickOf(r, 0, 1, 2, 3, 4, 5, 999, 1000)}
	if run.State == impl.MateWaiting {
		run.Left = 0
	}
	if w.Hold != "" {
		run.Until = max(0, clock+pickOf(r, -3, 2, 3, 4, 5, 9, 16))
	}
	if r.Intn(5) == 0 { // anything at all
		some := []int{math.MinInt, math.MinInt + 1, -2, -1, 0, 1, 2, 7, 100, 101, 1000, 1001, 1000016, 1000017, math.MaxInt - 1, math.MaxInt}
		*pickOf(r, &run.State, &run.Left, &run.Falls, &run.Until) = pickOf(r, some...)
	}
	return run
}

func randomClock(r *rand.Rand) int {
	if r.Intn(4) == 0 {
		return pickOf(r, math.MinInt, math.MinInt+2, -5, -1, 1000000, 1000001, math.MaxInt-5, math.MaxInt-4, math.MaxInt-3, math.MaxInt)
	}
	return r.Intn(100)
}

func TestMateRunsOkAsRead(t *testing.T) {
	r := rand.New(rand.NewSource(51))
	met := map[bool]int{}
	for range 20000 {
		clock := randomClock(r)
		var list []impl.MateRun
		for range 1 + r.Intn(2) {
			list = append(list, randomRun(r, clock))
		}
		want := modelRunsOk(list, clock)
		met[want]++
		if got := impl.MateRunsOk(list, clock); got != want {
			t.Fatalf("MateRunsOk at %d is %v: %+v", clock, got, list)
		}
	}
	if met[true] < 4000 || met[false] < 4000 {
		t.Errorf("the runs tell too little: %v", met)
	}
}

func TestMateRunsAreNotChanged(t *testing.T) {
	r := rand.New(rand.NewSource(52))
	for range 300 {
		list := append(severalRuns(), randomRun(r, 50), randomRun(r, 50))
		before := slices.Clone(list)
		impl.MateRunsOk(list[:len(list)-2], 50)
		if !slices.Equal(list, before) {
			t.Fatalf("the runs were %+v, and are %+v", before, list)
		}
	}
}

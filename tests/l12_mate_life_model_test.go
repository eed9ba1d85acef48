package tests

import (
	"math"
	"math/rand"
	"slices"
	"testing"

	"loop.example/wharffleet/impl"
)

// A second reading of chapter 12, made another way than the program: rules, of which the first that is met is done.

func modelWatchdog(list []impl.MateRun, clock int) []impl.MateRun {
	var watched []impl.MateRun
	for _, r := range list {
		if modelAlive(r) && !modelFree(r, clock) {
			r = impl.MateRun{Want: r.Want, State: 2, Falls: r.Falls, Until: r.Until}
		}
		watched = append(watched, r)
	}
	return watched
}

type lifeRule struct {
	name string
	met  func(r impl.MateRun) bool
	next func(r impl.MateRun) impl.MateRun
}

// modelLife tells the name of the rule, too; "gone" is the one that leaves nothing.
func modelLife(r impl.MateRun, w impl.MateWant, wanted bool, clock int) (impl.MateRun, string) {
	word := modelStateWords[r.State]
	unwanted := !wanted || w.Copy != r.Want.Copy || w.Version != r.Want.Version || w.Hold != r.Want.Hold ||
		[4]int{w.Pull, w.Start, w.Dies, w.Grace} != [4]int{r.Want.Pull, r.Want.Start, r.Want.Dies, r.Want.Grace}
	to := func(state, left int) func(impl.MateRun) impl.MateRun {
		return func(r impl.MateRun) impl.MateRun {
			r.State, r.Left = state, left
			return r
		}
	}
	is := func(b bool) func(impl.MateRun) bool { return func(impl.MateRun) bool { return b } }
	begins := word == "pulling" || word == "waiting" || word == "backoff"
	for _, rule := range []lifeRule{
		{"stop", is(unwanted && modelAlive(r) && word != "stopping"), to(6, r.Want.Grace)},
		{"gone", is(unwanted && word != "stopping"), nil},
		{"count", is(word != "waiting" && r.Left > 1), to(r.State, r.Left-1)},
		{"gone", is(word == "stopping"), nil},
		{"start", is(begins && modelFree(r, clock)), to(3, r.Want.Start)},
		{"wait", is(begins), to(2, 0)},
		{"ready", is(word == "starting"), to(4, r.Want.Dies)},
		{"die", is(word == "ready" && r.Left == 1), modelDeath},
		{"stay", is(true), func(r impl.MateRun) impl.MateRun { return r }},
	} {
		if rule.met(r) && rule.next == nil {
			return impl.MateRun{}, rule.name
		}
		if rule.met(r) {
			return rule.next(r), rule.name
		}
	}
	panic("no rule")
}

func modelDeath(r impl.MateRun) impl.MateRun {
	if r.State = 5; !(r.Falls >= 1000) {
		r.Falls++
	}
	r.Left = int(math.Max(1, math.Min(16, math.Exp2(float64(r.Falls)))))
	return r
}

// checkLive holds what a tick of a run answers against the second reading, and tells the rule.
func checkLive(t *testing.T, r impl.MateRun, w impl.MateWant, wanted bool, clock int) string {
	t.Helper()
	want, rule := modelLife(r, w, wanted, clock)
	if got, ok := impl.MateLive(r, w, wanted, clock); got != want || ok != (rule != "gone") {
		t.Fatalf("MateLive(%+v, %+v, %v, %d) is %+v, %v, not %+v (%s)", r, w, wanted, clock, got, ok, want, rule)
	}
	return rule
}

func checkWatchdog(t *testing.T, list []impl.MateRun, clock int) {
	t.Helper()
	want := modelWatchdog(list, clock)
	if got := impl.MateWatchdog(list, clock); !slices.Equal(got, want) {
		t.Fatalf("MateWatchdog(%+v, %d) is %+v, not %+v", list, clock, got, want)
	}
}

// otherWant is a want that is not this one, in one field alone or in more.
func otherWant(r *rand.Rand, w impl.MateWant) impl.MateWant {
	return pickOf(r, wantsNear(w)...)
}

// wantsNear differ from a want in one field alone, each field once and more.
func wantsNear(w impl.MateWant) []impl.MateWant {
	var near []impl.MateWant
	add := func(change func(w *impl.MateWant)) {
		x := w
		change(&x)
		near = append(near, x)
	}
	add(func(w *impl.MateWant) { w.Copy += "x" })
	add(func(w *impl.MateWant) { w.Copy = "" })
	add(func(w *impl.MateWant) { w.Hold += "x" })
	add(func(w *impl.MateWant) { w.Hold = "" })
	for _, by := range []int{1, -1} {
		add(func(w *impl.MateWant) { w.Version += by })
		add(func(w *impl.MateWant) { w.Pull += by })
		add(func(w *impl.MateWant) { w.Start += by })
		add(func(w *impl.MateWant) { w.Dies += by })
		add(func(w *impl.MateWant) { w.Grace += by })
	}
	return slices.DeleteFunc(near, func(x impl.MateWant) bool { return x == w })
}

func TestMateLiveAsRead(t *testing.T) {
	r := rand.New(rand.NewSource(53))
	met := map[string]int{}
	for range 100000 {
		clock := randomClock(r)
		run := randomRun(r, clock)
		w, wanted := run.Want, r.Intn(4) > 0
		if r.Intn(4) == 0 {
			w = otherWant(r, w)
		}
		met[checkLive(t, run, w, wanted, clock)]++
		checkWatchdog(t, []impl.MateRun{run}, clock)
	}
	for _, rule := range []string{"stop", "gone", "count", "start", "wait", "ready", "die", "stay"} {
		if met[rule] < 1000 {
			t.Errorf("the runs tell too little: %v", met)
		}
	}
}

// Every state with every number of ticks to go, by every clock near the end of the lease.
func TestMateLiveOfEach(t *testing.T) {
	for _, state := range allStates() {
		for _, left := range []int{math.MinInt, -2, -1, 0, 1, 2, 3, 4, 99, 100, 101, math.MaxInt} {
			for _, falls := range []int{math.MinInt, -2, -1, 0, 1, 2, 3, 4, 5, 62, 63, 64, 998, 999, 1000, 1001, math.MaxInt} {
				for _, w := range []impl.MateWant{{}, {Copy: "c", Version: 1, Pull: 7, Start: 3, Dies: 5, Grace: 4}, {Copy: "c", Version: 1, Hold: "h", Start: 2}} {
					for _, until := range []int{math.MinInt, -1, 0, 53, 54, 1000016, math.MaxInt} {
						run := impl.MateRun{Want: w, State: state, Left: left, Falls: falls, Until: until}
						checkLive(t, run, w, true, 50)
						checkLive(t, run, w, false, 50)
					}
				}
			}
		}
	}
}

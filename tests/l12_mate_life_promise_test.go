package tests

import (
	"math/rand"
	"slices"
	"testing"

	"loop.example/wharffleet/impl"
)

// unwantedTicks is for how many ticks a run that is unwanted at each of them is there, the one behind which it is gone included; the way of each tick is one in which it is unwanted. It counts no further than most.
func unwantedTicks(t *testing.T, run impl.MateRun, clock, most int, way func(r impl.MateRun) (impl.MateWant, bool)) int {
	t.Helper()
	for n := 1; n <= most; n++ {
		w, wanted := way(run)
		checkLive(t, run, w, wanted, clock)
		next, there := impl.MateLive(run, w, wanted, clock)
		if !there {
			return n
		}
		run = next
	}
	return most + 1
}

func notWanted(r impl.MateRun) (impl.MateWant, bool) { return r.Want, false }

func newlyWanted(r impl.MateRun) (impl.MateWant, bool) {
	r.Want.Version++
	return r.Want, true
}

// Promise 16 of every state, every Grace and every number of ticks to go.
func TestPromise16(t *testing.T) {
	for grace := 0; grace <= impl.MateMaxTicks; grace++ {
		for state := 1; state <= 6; state++ {
			for _, hold := range []string{"", "h"} {
				most := impl.MateMaxTicks
				if state == impl.MateStopping { // with more it did not come to be stopped by MateLive
					most = grace
				}
				for left := 0; left <= most; left += 1 + left/7 {
					run := impl.MateRun{Want: impl.MateWant{Copy: "c", Version: 1, Hold: hold, Grace: grace, Pull: 3, Start: 2, Dies: 2}, State: state, Left: left}
					if hold != "" {
						run.Until = pickOf(rand.New(rand.NewSource(int64(left))), 0, 53, 54, 90)
					}
					want := 1
					switch {
					case state == impl.MateStopping:
						want = max(1, left)
					case impl.MateAlive(run):
						want = 1 + max(1, grace)
					}
					for _, way := range []func(impl.MateRun) (impl.MateWant, bool){notWanted, newlyWanted} {
						got := unwantedTicks(t, run, 50, grace+2, way)
						if got > grace+2 {
							t.Fatalf("%+v is not gone behind %d ticks", run, grace+2)
						}
						if got != want {
							t.Fatalf("%+v is gone behind %d ticks, not %d", run, got, want)
						}
					}
				}
			}
		}
	}
}

// Promise 16 of runs that have lived: from the first pull on, with leases and without, killed by the machine at times, wanted again at times, then at no tick any more.
func TestPromise16OfLives(t *testing.T) {
	r := rand.New(rand.NewSource(57))
	met := map[int]int{}
	longest := 0
	for range 20000 {
		w := impl.MateWant{Copy: "c", Version: 1, Hold: pickOf(r, "", "h"), Pull: r.Intn(5), Start: r.Intn(5), Dies: r.Intn(5), Grace: pickOf(r, 0, 1, 2, 3, 9, 30, 100)}
		run, clock, there := impl.MateRun{Want: w, State: impl.MatePulling, Left: w.Pull}, 10, true
		for range r.Intn(40) {
			clock += 1 + r.Intn(4)
			if w.Hold != "" && r.Intn(3) == 0 {
				run.Until = clock + impl.MateLease
			}
			run = impl.MateWatchdog([]impl.MateRun{run}, clock)[0]
			next, ok := impl.MateLive(run, w, r.Intn(20) > 0, clock)
			if there = ok; !there {
				break
			}
			run = next
		}
		if !there {
			continue
		}
		met[run.State]++
		ways := []func(impl.MateRun) (impl.MateWant, bool){notWanted, newlyWanted, func(x impl.MateRun) (impl.MateWant, bool) { return otherWant(r, x.Want), r.Intn(3) > 0 }}
		got := unwantedTicks(t, run, clock, w.Grace+2, func(x impl.MateRun) (impl.MateWant, bool) { return pickOf(r, ways...)(x) })
		if got > w.Grace+2 {
			t.Fatalf("%+v is not gone behind %d ticks", run, w.Grace+2)
		}
		longest = max(longest, got)
	}
	for state := 1; state <= 6; state++ {
		if met[state] < 300 {
			t.Errorf("the lives tell too little: %v", met)
		}
	}
	if longest < 100 {
		t.Errorf("the longest takes %d ticks", longest)
	}
}

// What is stopped lives to the end of its Grace, and is gone then, whatever is wanted meanwhile; only then it is there anew, from the first pull on.
func TestMateStopsToItsEnd(t *testing.T) {
	r := rand.New(rand.NewSource(58))
	for range 5000 {
		w := impl.MateWant{Copy: "c", Version: 1, Grace: r.Intn(12)}
		run := impl.MateRun{Want: w, State: pickOf(r, impl.MateStarting, impl.MateReady), Left: r.Intn(9)}
		run, _ = impl.MateLive(run, w, false, 50)
		var lefts []int
		for there := true; there; {
			if run.State != impl.MateStopping || !impl.MateAlive(run) || len(lefts) > w.Grace {
				t.Fatalf("%+v behind %v", run, lefts)
			}
			lefts = append(lefts, run.Left)
			run, there = impl.MateLive(run, w, r.Intn(2) == 0, 50)
		}
		var want []int
		for n := w.Grace; n > 0; n-- {
			want = append(want, n)
		}
		if w.Grace == 0 {
			want = []int{0}
		}
		if !slices.Equal(lefts, want) || run != (impl.MateRun{}) {
			t.Fatalf("with Grace %d it stops by %v, and leaves %+v", w.Grace, lefts, run)
		}
	}
}

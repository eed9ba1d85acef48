package tests

import (
	"math/rand"
	"reflect"
	"slices"
	"testing"

	"loop.example/wharffleet/impl"
)

func (x *mateTale) fall(machine bool, want string) {
	x.t.Helper()
	if x.m = checkMateFall(x.t, x.m, machine); tellMate(x.m) != want {
		x.t.Errorf("fallen (its machine: %v) it is\n%s, not\n%s", machine, tellMate(x.m), want)
	}
	if x.m.Up || x.m.Known || x.m.Seen != 0 || len(x.m.Wants) != 0 {
		x.t.Errorf("fallen it has %+v", x.m)
	}
	checkMateValid(x.t, "fallen", x.m, true)
}

func (x *mateTale) rise() {
	x.t.Helper()
	before := plainMate(x.m)
	x.m = checkMateRise(x.t, x.m)
	if before.Up = true; !reflect.DeepEqual(plainMate(x.m), before) {
		x.t.Errorf("risen it is %+v, not %+v", x.m, before)
	}
	checkMateValid(x.t, "risen", x.m, true)
}

func TestMateFall(t *testing.T) {
	for _, machine := range []bool{false, true} {
		lives := map[bool]string{
			false: "50 [c3/1@54 d4/0@0 f6/2@1000016] asks [] gives []",
			true:  "50 [c2/0@54 f2/0@1000016] asks [] gives []",
		}[machine]
		for _, m := range []impl.Mate{fullMate(), downMate()} {
			x := &mateTale{t, m}
			x.fall(machine, lives)
			again := map[bool]string{false: lives, true: "50 [] asks [] gives []"}
			x.fall(false, again[machine]) // what waits for its hold is gone by the next fall
			x.fall(true, map[bool]string{false: "50 [c2/0@54 f2/0@1000016] asks [] gives []", true: "50 [] asks [] gives []"}[machine])
		}
		// Nothing at all stays so.
		for _, up := range []bool{false, true} {
			x := &mateTale{t, impl.Mate{Name: "a", Up: up, Clock: 7}}
			x.fall(machine, "7 [] asks [] gives []")
		}
		// Also at the end of the clock.
		x := &mateTale{t, impl.Mate{Name: "a", Up: true, Clock: 1000000, Known: true, Seen: 9, Runs: []impl.MateRun{{Want: wantOf("c", "v"), State: impl.MateReady, Left: 3, Falls: 8, Until: 1000004}}}}
		x.fall(machine, map[bool]string{false: "1000000 [c4/3@1000004] asks [] gives []", true: "1000000 [c2/0@1000004] asks [] gives []"}[machine])
		if x.m.Runs[0].Falls != 8 || x.m.Runs[0].Want != wantOf("c", "v") {
			t.Errorf("fallen it has %+v", x.m.Runs)
		}
	}
}

// Each state, with a hold and without, by a fall of each kind.
func TestMateFallOfEachState(t *testing.T) {
	for state := 1; state <= 6; state++ {
		for _, hold := range []string{"", "v"} {
			for _, machine := range []bool{false, true} {
				run := impl.MateRun{Want: wantOf("c", hold), State: state, Left: 3, Falls: 2}
				if state == impl.MateWaiting {
					run.Left = 0
				}
				if hold != "" {
					run.Until = 66
				}
				m := impl.Mate{Name: "a", Up: true, Clock: 50, Runs: []impl.MateRun{run}}
				var want []impl.MateRun
				lives := slices.Contains([]int{impl.MateStarting, impl.MateReady, impl.MateStopping}, state)
				switch {
				case lives && !machine:
					want = []impl.MateRun{run}
				case lives && hold != "":
					run.State, run.Left = impl.MateWaiting, 0
					want = []impl.MateRun{run}
				}
				if got := checkMateFall(t, m, machine).Runs; !slices.Equal(got, want) {
					t.Errorf("state %d, hold %q, machine %v: %+v, not %+v", state, hold, machine, got, want)
				}
			}
		}
	}
}

func TestMateRise(t *testing.T) {
	for _, m := range []impl.Mate{fullMate(), downMate(), {Name: "a"}, {Name: "a", Up: true}, {Name: "a", Clock: 999999}, {Name: "a", Up: true, Clock: 1000000}} {
		x := &mateTale{t, m}
		x.rise()
		x.rise()
	}
	// At the end of the clock it is as it was: down, or up with all that it has.
	for _, m := range []impl.Mate{downMate(), fullMate(), {Name: "a"}, {Name: "a", Up: true}} {
		m.Clock = 1000000
		for i, r := range m.Runs {
			if r.Want.Hold != "" {
				m.Runs[i].Until = 1000004
			}
		}
		checkMateValid(t, "at the end", m, true)
		if got := checkMateRise(t, m); !reflect.DeepEqual(plainMate(got), plainMate(m)) {
			t.Errorf("at the end it is %+v, not %+v", got, m)
		}
	}
}

// A mate that falls alone and comes back: its runs go on without it, and what it was told and given ahead of its fall is nothing to it.
func TestMateComesBack(t *testing.T) {
	c, d := wantOf("c", "v"), wantOf("d", "")
	x := newTale(t)
	x.take(toldTo(5, c, d))
	x.tick(1, "1 [c1/0@0 d1/0@0] asks [v=c:1-1] gives []", "asked v c 1, here 5")
	x.take(givenTo("v", "c", 1))
	x.tick(1, "2 [c3/0@17 d3/0@0] asks [v=c:1-1] gives []", "here 5")
	x.fall(false, "2 [c3/0@17 d3/0@0] asks [] gives []")
	x.takesNot(givenTo("v", "c", 1))
	x.takesNot(toldTo(6, c))
	x.tick(4, "6 [c3/0@17 d3/0@0] asks [] gives []", "")
	x.rise()
	x.tick(1, "7 [c3/0@17 d3/0@0] asks [] gives []", "here 0")
	x.takesNot(givenTo("v", "c", 1))
	x.takesNot(gotBackTo("v", 1))
	x.takesNot(toldTo(0, c, d))
	x.take(toldTo(5, c, d)) // the number that it has heard before counts, as it does not know of it
	x.tick(1, "8 [c4/0@17 d4/0@0] asks [v=c:8-8] gives []", "asked v c 8, here 5")
	x.takesNot(givenTo("v", "c", 1)) // what was given for an older ask
	x.takesNot(givenTo("v", "c", 7))
	x.take(givenTo("v", "c", 8))
	x.tick(1, "9 [c4/0@24 d4/0@0] asks [v=c:8-8] gives []", "here 5")
	x.takesNot(toldTo(5))
	x.takesNot(toldTo(4))
	x.take(toldTo(6))
	x.tick(1, "10 [c6/0@24 d6/0@0] asks [v=c:8-8] gives []", "here 6")
	// It falls while it gives back: it knows nothing of that, and neither lives nor asks what has gone.
	x.tick(1, "11 [] asks [] gives [v=c:8-8]", "back v c 8, here 6")
	x.fall(false, "11 [] asks [] gives []")
	x.rise()
	x.takesNot(gotBackTo("v", 8))
	x.tick(1, "12 [] asks [] gives []", "here 0")
}

// A machine that falls: nothing lives; what has a hold waits, and begins again with what is left of its lease.
func TestMateMachineComesBack(t *testing.T) {
	c := impl.MateWant{Copy: "c", Version: 1, Hold: "v", Start: 1}
	for _, left := range []struct {
		rate        int
		first, then string
	}{
		{1, "51 [c2/0@56] asks [] gives []", "52 [c3/1@56] asks [v=c:52-52] gives []"},
		{4, "54 [c2/0@56] asks [] gives []", "58 [c2/0@56] asks [v=c:58-58] gives []"},
	} {
		x := newTale(t)
		x.m = impl.Mate{Name: "a", Up: true, Clock: 50, Known: true, Seen: 9, Wants: []impl.MateWant{c, wantOf("d", "")}, Runs: []impl.MateRun{{Want: c, State: impl.MateReady, Falls: 2, Until: 56}, {Want: wantOf("d", ""), State: impl.MateReady}}, Asks: []impl.MateAsk{{Hold: "v", Copy: "c", First: 40, At: 40}}}
		x.fall(true, "50 [c2/0@56] asks [] gives []")
		x.rise()
		x.tick(left.rate, left.first, "here 0")
		x.take(toldTo(1, c))
		x.tick(left.rate, left.then, "asked v c "+left.then[:2]+", here 1")
		if x.m.Runs[0].Falls != 2 {
			t.Errorf("it has died: %+v", x.m.Runs)
		}
	}
}

// checkPromise20 tells how many lived ahead of the fall.
func checkPromise20(t *testing.T, m impl.Mate) int {
	t.Helper()
	var lived []impl.MateRun
	for _, r := range m.Runs {
		if impl.MateAlive(r) {
			lived = append(lived, r)
		}
	}
	alone, whole := impl.MateFall(m, false), impl.MateFall(m, true)
	if !slices.Equal(alone.Runs, lived) {
		t.Fatalf("without its machine %+v is %+v", m, alone)
	}
	if slices.ContainsFunc(whole.Runs, impl.MateAlive) {
		t.Fatalf("with its machine %+v is %+v", m, whole)
	}
	for _, fallen := range []impl.Mate{alone, whole} {
		checkMateValid(t, "fallen", fallen, true)
		checkMateValid(t, "risen", impl.MateRise(fallen), true)
	}
	return len(lived)
}

func TestPromise20(t *testing.T) {
	t.Parallel()
	for _, m := range []impl.Mate{{Name: "a"}, {Name: "a", Up: true}, fullMate(), downMate(), greatMate()} {
		checkPromise20(t, m)
	}
	r := rand.New(rand.NewSource(67))
	lived := 0
	for range 10000 {
		lived += checkPromise20(t, randomMate(r))
	}
	if lived < 10000 {
		t.Errorf("the falls tell too little: %d", lived)
	}
}

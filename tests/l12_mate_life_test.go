package tests

import (
	"fmt"
	"math"
	"math/rand"
	"slices"
	"strings"
	"testing"
	"unsafe"

	"loop.example/wharffleet/impl"
)

// lifeOf is a run's states and ticks to go behind each tick, "gone" where it is; wanted tells of each tick whether it is wanted then.
func lifeOf(t *testing.T, r impl.MateRun, clock int, wanted ...bool) string {
	t.Helper()
	var told []string
	for _, is := range wanted {
		checkLive(t, r, r.Want, is, clock)
		next, there := impl.MateLive(r, r.Want, is, clock)
		if !there {
			return strings.Join(append(told, "gone"), " ")
		}
		if next.Want != r.Want || next.Until != r.Until {
			t.Errorf("the run was %+v, and is %+v", r, next)
		}
		told = append(told, fmt.Sprintf("%d/%d", next.State, next.Left))
		r = next
	}
	return strings.Join(told, " ")
}

func ticks(n int, wanted bool) []bool { return slices.Repeat([]bool{wanted}, n) }

func checkLife(t *testing.T, r impl.MateRun, clock int, wanted []bool, want string) {
	t.Helper()
	if got := lifeOf(t, r, clock, wanted...); got != want {
		t.Errorf("%+v at %d: its life is %s, not %s", r, clock, got, want)
	}
}

// longWant takes its time for all.
var longWant = impl.MateWant{Copy: "c", Version: 1, Pull: 3, Start: 3, Dies: 3, Grace: 3}

func TestMateLiveWanted(t *testing.T) {
	run := func(state, left int) impl.MateRun { return impl.MateRun{Want: longWant, State: state, Left: left} }
	checkLife(t, run(impl.MatePulling, 3), 50, ticks(4, true), "1/2 1/1 3/3 3/2")
	checkLife(t, run(impl.MatePulling, 1), 50, ticks(2, true), "3/3 3/2")
	checkLife(t, run(impl.MatePulling, 0), 50, ticks(2, true), "3/3 3/2")
	checkLife(t, run(impl.MateWaiting, 0), 50, ticks(2, true), "3/3 3/2")
	checkLife(t, run(impl.MateStarting, 3), 50, ticks(4, true), "3/2 3/1 4/3 4/2")
	checkLife(t, run(impl.MateStarting, 1), 50, ticks(2, true), "4/3 4/2")
	checkLife(t, run(impl.MateStarting, 0), 50, ticks(2, true), "4/3 4/2")
	checkLife(t, run(impl.MateReady, 3), 50, ticks(6, true), "4/2 4/1 5/2 5/1 3/3 3/2")
	checkLife(t, run(impl.MateReady, 1), 50, ticks(2, true), "5/2 5/1")
	checkLife(t, run(impl.MateReady, 0), 50, ticks(3, true), "4/0 4/0 4/0")
	checkLife(t, run(impl.MateBackoff, 3), 50, ticks(4, true), "5/2 5/1 3/3 3/2")
	checkLife(t, run(impl.MateBackoff, 1), 50, ticks(2, true), "3/3 3/2")
	checkLife(t, run(impl.MateBackoff, 0), 50, ticks(2, true), "3/3 3/2")
	checkLife(t, run(impl.MateStopping, 3), 50, ticks(4, true), "6/2 6/1 gone")
	checkLife(t, run(impl.MateStopping, 1), 50, ticks(1, true), "gone")
	checkLife(t, run(impl.MateStopping, 0), 50, ticks(1, true), "gone")
	// What takes no time is in its state for a tick all the same.
	short := impl.MateRun{Want: impl.MateWant{Copy: "c", Version: 1}, State: impl.MatePulling}
	checkLife(t, short, 50, ticks(4, true), "3/0 4/0 4/0 4/0")
	short.Want.Dies = 1
	checkLife(t, short, 50, ticks(7, true), "3/0 4/1 5/2 5/1 3/0 4/1 5/4")
	// The longest ticks.
	long := impl.MateRun{Want: impl.MateWant{Copy: "c", Version: 1, Pull: 100, Start: 100, Dies: 100, Grace: 100}, State: impl.MatePulling, Left: 100}
	if got := lifeOf(t, long, 50, ticks(301, true)...); strings.Count(got, "1/") != 99 || strings.Count(got, "3/") != 100 || strings.Count(got, "4/") != 100 || !strings.HasSuffix(got, "4/2 4/1 5/2 5/1") {
		t.Error(got)
	}
}

func TestMateLiveUnwanted(t *testing.T) {
	run := func(state, left int) impl.MateRun { return impl.MateRun{Want: longWant, State: state, Left: left} }
	for _, left := range []int{0, 1, 2, 100} {
		checkLife(t, run(impl.MatePulling, left), 50, ticks(1, false), "gone")
		checkLife(t, run(impl.MateWaiting, left), 50, ticks(1, false), "gone")
		checkLife(t, run(impl.MateStarting, left), 50, ticks(5, false), "6/3 6/2 6/1 gone")
		checkLife(t, run(impl.MateReady, left), 50, ticks(5, false), "6/3 6/2 6/1 gone")
		checkLife(t, run(impl.MateBackoff, left), 50, ticks(1, false), "gone")
	}
	// What stops already gets no new time.
	checkLife(t, run(impl.MateStopping, 2), 50, ticks(5, false), "6/1 gone")
	checkLife(t, run(impl.MateStopping, 9), 50, ticks(2, false), "6/8 6/7")
	checkLife(t, run(impl.MateStopping, 1), 50, ticks(1, false), "gone")
	checkLife(t, run(impl.MateStopping, 0), 50, ticks(1, false), "gone")
	// Without Grace, and with the least, it stops for a tick.
	for grace := range 2 {
		r := run(impl.MateReady, 0)
		r.Want.Grace = grace
		checkLife(t, r, 50, ticks(2, false), fmt.Sprintf("6/%d gone", grace))
	}
	// Wanted again while it stops: it is stopped to its end.
	checkLife(t, run(impl.MateReady, 2), 50, []bool{true, false, true, true, true}, "4/1 6/3 6/2 6/1 gone")
	checkLife(t, run(impl.MateStarting, 2), 50, []bool{false, true, false, true}, "6/3 6/2 6/1 gone")
}

// A want that differs in one field alone is another one; of what is stopped, the Grace is that of its own Want.
func TestMateLiveOtherWant(t *testing.T) {
	for _, hold := range []string{"", "h"} {
		own := longWant
		own.Hold = hold
		for _, other := range wantsNear(own) {
			for state := 1; state <= 6; state++ {
				for _, left := range []int{0, 1, 2, 5} {
					r := impl.MateRun{Want: own, State: state, Left: left, Falls: 2, Until: 99}
					rule := checkLive(t, r, other, true, 50)
					if lives := state == impl.MateStarting || state == impl.MateReady; rule == "stop" != lives {
						t.Errorf("%+v with %+v: %s", r, other, rule)
					}
					if x, ok := impl.MateLive(r, other, true, 50); ok && x.State == impl.MateStopping && state != impl.MateStopping && x.Left != 3 {
						t.Errorf("%+v with %+v: %+v", r, other, x)
					}
					// Without a word of what is wanted it does not matter what that is.
					for _, w := range []impl.MateWant{own, other, {}} {
						x, ok := impl.MateLive(r, w, false, 50)
						if y, too := impl.MateLive(r, other, true, 50); x != y || ok != too {
							t.Errorf("%+v: %+v, %v, and with another want %+v, %v", r, x, ok, y, too)
						}
					}
				}
			}
		}
	}
	if n := len(wantsNear(longWant)); n < 12 {
		t.Errorf("%d wants near one", n)
	}
	// The want of nothing is wanted, too, by a run that is of nothing.
	x, ok := impl.MateLive(impl.MateRun{State: impl.MatePulling}, impl.MateWant{}, true, 50)
	if want := (impl.MateRun{State: impl.MateStarting}); x != want || !ok {
		t.Errorf("%+v, %v", x, ok)
	}
}

// What begins without its lease waits; what begins with it starts.
func TestMateLiveHolds(t *testing.T) {
	held := longWant
	held.Hold = "h"
	for _, state := range []int{impl.MatePulling, impl.MateWaiting, impl.MateBackoff} {
		for _, left := range []int{0, 1} {
			for _, c := range []struct {
				clock, until int
				starts       bool
			}{
				{50, 54, true}, {50, 53, false}, {50, 55, true}, {50, 0, false}, {50, -1, false}, {0, 4, true}, {0, 3, false},
				{1000000, 1000004, true}, {1000000, 1000003, false}, {-10, 0, true}, {-4, 0, true}, {-3, 0, false},
				{math.MaxInt - 4, math.MaxInt, true}, {math.MaxInt - 4, math.MaxInt - 1, false}, {math.MaxInt - 3, 0, true},
				{math.MaxInt - 3, math.MinInt, true}, {math.MaxInt, 0, true}, {math.MaxInt, math.MinInt + 2, false}, {math.MaxInt, math.MinInt + 3, true},
				{math.MinInt, 0, true}, {math.MinInt, math.MinInt + 3, false}, {math.MinInt, math.MinInt + 4, true},
			} {
				r := impl.MateRun{Want: held, State: state, Left: left, Falls: 2, Until: c.until}
				want := "2/0"
				if c.starts {
					want = "3/3"
				}
				checkLife(t, r, c.clock, ticks(1, true), want)
				r.Want.Hold = "" // without a Hold the Until does not matter
				checkLife(t, r, c.clock, ticks(1, true), "3/3")
			}
		}
	}
	// It waits as long as it must.
	waits := impl.MateRun{Want: held, State: impl.MatePulling, Left: 2}
	checkLife(t, waits, 50, ticks(5, true), "1/1 2/0 2/0 2/0 2/0")
	waits.State, waits.Left, waits.Until = impl.MateWaiting, 0, 60
	checkLife(t, waits, 56, ticks(1, true), "3/3")
	checkLife(t, waits, 57, ticks(1, true), "2/0")
	// MateLive itself kills nothing: that is for the machine.
	lives := impl.MateRun{Want: held, State: impl.MateStarting, Left: 2}
	checkLife(t, lives, 50, ticks(5, true), "3/1 4/3 4/2 4/1 5/2")
	checkLife(t, lives, 50, ticks(7, true), "3/1 4/3 4/2 4/1 5/2 5/1 2/0")
	checkLife(t, lives, 50, ticks(7, false), "6/3 6/2 6/1 gone")
}

// A lease that ends while a run lives: the machine kills it ahead of the mate's tick, and it starts again with a new lease.
func TestMateLeaseEnds(t *testing.T) {
	held := longWant
	held.Hold = "h"
	held.Dies = 0
	run := impl.MateRun{Want: held, State: impl.MateStarting, Left: 3, Falls: 4, Until: 58}
	told := ""
	for clock := 50; clock <= 66; clock += 2 {
		if clock == 60 {
			run.Until = 76
		}
		run = impl.MateWatchdog([]impl.MateRun{run}, clock)[0]
		told += fmt.Sprintf(" %d:%d", clock, run.State)
		run, _ = impl.MateLive(run, held, true, clock)
		told += fmt.Sprintf(">%d/%d", run.State, run.Left)
	}
	if told != " 50:3>3/2 52:3>3/1 54:3>4/0 56:2>2/0 58:2>2/0 60:2>3/3 62:3>3/2 64:3>3/1 66:3>4/0" || run.Falls != 4 {
		t.Error(told, run)
	}
}

func TestMateLiveFalls(t *testing.T) {
	// It dies again and again: it waits longer and longer, up to a limit.
	run := impl.MateRun{Want: impl.MateWant{Copy: "c", Version: 1, Dies: 1}, State: impl.MateReady, Left: 1}
	var lefts, falls []int
	for range 7 {
		run, _ = impl.MateLive(run, run.Want, true, 50)
		lefts, falls = append(lefts, run.Left), append(falls, run.Falls)
		for n := run.Left; n > 0; n-- {
			if run.State != impl.MateBackoff || run.Left != n {
				t.Fatalf("%+v", run)
			}
			run, _ = impl.MateLive(run, run.Want, true, 50)
		}
		run, _ = impl.MateLive(run, run.Want, true, 50)
		if run.State != impl.MateReady || run.Left != 1 {
			t.Fatalf("%+v", run)
		}
	}
	if !slices.Equal(lefts, []int{2, 4, 8, 16, 16, 16, 16}) || !slices.Equal(falls, []int{1, 2, 3, 4, 5, 6, 7}) {
		t.Error(lefts, falls)
	}
	for _, c := range []struct{ falls, next, left int }{
		{0, 1, 2}, {1, 2, 4}, {2, 3, 8}, {3, 4, 16}, {4, 5, 16}, {62, 63, 16}, {63, 64, 16}, {64, 65, 16},
		{998, 999, 16}, {999, 1000, 16}, {1000, 1000, 16}, {1001, 1001, 16}, {math.MaxInt, math.MaxInt, 16},
		{-1, 0, 1}, {-2, -1, 1}, {-64, -63, 1}, {math.MinInt, math.MinInt + 1, 1},
	} {
		r := impl.MateRun{Want: longWant, State: impl.MateReady, Left: 1, Falls: c.falls, Until: 7}
		want := impl.MateRun{Want: longWant, State: impl.MateBackoff, Left: c.left, Falls: c.next, Until: 7}
		if got, ok := impl.MateLive(r, longWant, true, 50); got != want || !ok {
			t.Errorf("%d falls: %+v, %v", c.falls, got, ok)
		}
	}
	// It counts its deaths alone.
	for state := 1; state <= 6; state++ {
		for _, left := range []int{0, 1, 2} {
			for _, wanted := range []bool{true, false} {
				r := impl.MateRun{Want: longWant, State: state, Left: left, Falls: 5}
				if got, ok := impl.MateLive(r, longWant, wanted, 50); ok && got.Falls != 5 && !(state == impl.MateReady && left == 1) {
					t.Errorf("%+v: %+v", r, got)
				}
			}
		}
	}
}

// States that are none count, and no more; unwanted they are gone.
func TestMateLiveNoState(t *testing.T) {
	for _, state := range allStates() {
		if isState(state) {
			continue
		}
		for _, c := range []struct{ left, next int }{{3, 2}, {2, 1}, {1, 1}, {0, 0}, {-1, -1}, {math.MinInt, math.MinInt}, {math.MaxInt, math.MaxInt - 1}} {
			for _, hold := range []string{"", "h"} {
				r := impl.MateRun{Want: longWant, State: state, Left: c.left, Falls: -3, Until: -9}
				r.Want.Hold = hold
				want := r
				want.Left = c.next
				if got, ok := impl.MateLive(r, r.Want, true, 50); got != want || !ok {
					t.Errorf("%+v: %+v, %v", r, got, ok)
				}
				if got, ok := impl.MateLive(r, r.Want, false, 50); got != (impl.MateRun{}) || ok {
					t.Errorf("%+v: unwanted it is %+v, %v", r, got, ok)
				}
				checkWatchdog(t, []impl.MateRun{r}, 50)
			}
		}
	}
	// Ticks to go that cannot be.
	for _, left := range []int{-1, -100, math.MinInt} {
		run := func(state int) impl.MateRun { return impl.MateRun{Want: longWant, State: state, Left: left} }
		checkLife(t, run(impl.MatePulling), 50, ticks(1, true), "3/3")
		checkLife(t, run(impl.MateWaiting), 50, ticks(1, true), "3/3")
		checkLife(t, run(impl.MateStarting), 50, ticks(1, true), "4/3")
		checkLife(t, run(impl.MateReady), 50, ticks(2, true), fmt.Sprintf("4/%d 4/%d", left, left))
		checkLife(t, run(impl.MateBackoff), 50, ticks(1, true), "3/3")
		checkLife(t, run(impl.MateStopping), 50, ticks(1, true), "gone")
	}
	for _, left := range []int{1, 2, 100, math.MaxInt} {
		checkLife(t, impl.MateRun{Want: longWant, State: impl.MateWaiting, Left: left}, 50, ticks(1, true), "3/3")
	}
}

func TestMateWatchdog(t *testing.T) {
	if got := impl.MateWatchdog(nil, 50); len(got) != 0 {
		t.Errorf("%+v", got)
	}
	if got := impl.MateWatchdog([]impl.MateRun{}, 50); len(got) != 0 {
		t.Errorf("%+v", got)
	}
	if got := impl.MateWatchdog(severalRuns(), 50); !slices.Equal(got, severalRuns()) {
		t.Errorf("%+v", got)
	}
	want := severalRuns()
	want[2].State, want[2].Left = impl.MateWaiting, 0
	if got := impl.MateWatchdog(severalRuns(), 51); !slices.Equal(got, want) {
		t.Errorf("%+v", got)
	}
	// Each state, with and without a Hold, at the end of the lease.
	for _, state := range allStates() {
		for _, c := range []struct {
			clock, until int
			ends         bool
		}{
			{50, 54, false}, {50, 53, true}, {50, 0, true}, {50, -7, true}, {0, 3, true}, {0, 4, false}, {-4, 0, false}, {-3, 0, true},
			{1000000, 1000004, false}, {1000000, 1000003, true}, {math.MaxInt - 4, math.MaxInt - 1, true}, {math.MaxInt - 4, math.MaxInt, false},
			{math.MaxInt - 3, math.MinInt, false}, {math.MaxInt, 0, false}, {math.MaxInt, math.MinInt, true}, {math.MinInt, math.MinInt + 3, true}, {math.MinInt, 0, false},
		} {
			for _, hold := range []string{"", "h", "*", " "} {
				r := impl.MateRun{Want: longWant, State: state, Left: 9, Falls: 3, Until: c.until}
				r.Want.Hold = hold
				want := r
				if hold != "" && c.ends && (state == impl.MateStarting || state == impl.MateReady || state == impl.MateStopping) {
					want.State, want.Left = impl.MateWaiting, 0
				}
				if got := impl.MateWatchdog([]impl.MateRun{r}, c.clock); !slices.Equal(got, []impl.MateRun{want}) {
					t.Errorf("%+v at %d: %+v", r, c.clock, got)
				}
			}
		}
	}
}

// Behind the machine's tick nothing lives without its lease; and it is done at once: a second one finds nothing.
func TestMateWatchdogLeavesNone(t *testing.T) {
	r := rand.New(rand.NewSource(54))
	killed := 0
	for range 5000 {
		clock := randomClock(r)
		var list []impl.MateRun
		for range r.Intn(6) { // in any order, and the same copy again
			list = append(list, randomRun(r, clock))
		}
		checkWatchdog(t, list, clock)
		got := impl.MateWatchdog(list, clock)
		for i, x := range got {
			if impl.MateAlive(x) && x.Want.Hold != "" && x.Until < modelSoon(clock) {
				t.Fatalf("at %d: %+v", clock, x)
			}
			if x != list[i] {
				killed++
			}
		}
		if again := impl.MateWatchdog(got, clock); !slices.Equal(again, got) {
			t.Fatalf("at %d: %+v and then %+v", clock, got, again)
		}
		if impl.MateRunsOk(list, clock) && !slices.Equal(got, list) {
			t.Fatalf("at %d: %+v is ok, and %+v is left", clock, list, got)
		}
		if ok := impl.MateRunsOk(list, clock); clock < math.MaxInt-8 && clock > math.MinInt+8 && ok && !impl.MateRunsOk(impl.MateWatchdog(list, clock+4), clock+4) {
			t.Fatalf("at %d: %+v is not ok behind the next tick", clock, list)
		}
	}
	if killed < 1000 {
		t.Errorf("the runs tell too little: %d", killed)
	}
}

// Runs that are ok are so behind a tick, with any want.
func TestMateLiveKeepsOk(t *testing.T) {
	r := rand.New(rand.NewSource(55))
	met := 0
	for range 50000 {
		clock := randomClock(r)
		run := randomRun(r, clock)
		if !impl.MateRunsOk([]impl.MateRun{run}, clock) {
			continue
		}
		met++
		w := run.Want
		if r.Intn(3) == 0 {
			w = otherWant(r, w)
		}
		if x, ok := impl.MateLive(run, w, r.Intn(5) > 0, clock); ok && !impl.MateRunsOk([]impl.MateRun{x}, clock) {
			t.Fatalf("at %d: %+v is ok, and %+v is not", clock, run, x)
		}
	}
	if met < 10000 {
		t.Errorf("the runs tell too little: %d", met)
	}
}

func TestMateWatchdogGreat(t *testing.T) {
	for _, n := range []int{10, 11, 19, 20, 21, 1000} {
		list := numbered(n, func(name string) impl.MateRun {
			return impl.MateRun{Want: impl.MateWant{Copy: name, Version: 1, Hold: "h" + name}, State: impl.MateReady, Left: 5, Until: 53}
		})
		checkWatchdog(t, list, 50)
		checkWatchdog(t, list, 49)
		for i, x := range impl.MateWatchdog(list, 50) {
			if x.State != impl.MateWaiting || x.Want.Copy != list[i].Want.Copy {
				t.Errorf("%d: %+v", i, x)
			}
		}
		slices.Reverse(list)
		checkWatchdog(t, list, 50)
	}
	inGoodTime(t, "a list that is far too long", func() {
		if got := impl.MateWatchdog(slices.Repeat(severalRuns(), 50000), 51); len(got) != 300000 {
			t.Error(len(got))
		}
	})
}

// textsApart says whether two texts have memory of their own, also where one would lie within the other.
func textsApart(a, b string) bool {
	from := func(s string) uintptr { return uintptr(unsafe.Pointer(unsafe.StringData(s))) }
	to := func(s string) uintptr { return from(s) + uintptr(len(s)) }
	return a == "" || b == "" || to(a) <= from(b) || to(b) <= from(a)
}

func TestMateLifeMemory(t *testing.T) {
	r := rand.New(rand.NewSource(56))
	for range 500 {
		clock := r.Intn(100)
		behind := impl.MateRun{Want: impl.MateWant{Copy: "behind", Hold: "h"}, State: impl.MateReady}
		var list []impl.MateRun
		for range r.Intn(5) {
			list = append(list, randomRun(r, clock))
		}
		whole := append(list, behind, behind, behind)
		before := slices.Clone(whole)
		list = whole[:len(list)]
		got := impl.MateWatchdog(list, clock)
		checkOwnMemory(t, []any{whole}, []any{got})
		if !slices.Equal(whole, before) {
			t.Fatalf("the runs were %+v, and are %+v", before, whole)
		}
		for i, x := range got {
			if !textsApart(x.Want.Copy, list[i].Want.Copy) || !textsApart(x.Want.Hold, list[i].Want.Hold) {
				t.Fatalf("a text is shared: %+v", x)
			}
			if y, ok := impl.MateLive(list[i], list[i].Want, true, clock); ok && (!textsApart(y.Want.Copy, list[i].Want.Copy) || !textsApart(y.Want.Hold, list[i].Want.Hold)) {
				t.Fatalf("a text is shared: %+v", y)
			}
		}
		// What is written into an answer, spare room included, is not seen in the argument.
		for i := range got[:cap(got)] {
			got[:cap(got)][i] = impl.MateRun{Left: 77}
		}
		if !slices.Equal(whole, before) {
			t.Fatalf("the runs were %+v, and are %+v", before, whole)
		}
	}
}

package tests

import (
	"math"
	"math/rand"
	"testing"

	"loop.example/wharffleet/impl"
)

// leasesEnd says of a mate whether some run in it lives with a hold beyond its lease.
func leasesEnd(m impl.Mate) bool {
	for _, r := range m.Runs {
		lives := r.State == impl.MateStarting || r.State == impl.MateReady || r.State == impl.MateStopping
		if lives && r.Want.Hold != "" && r.Until < m.Clock+4 {
			return true
		}
	}
	return false
}

// checkPromise15 is a tick, and tells the mate behind it and how many run on a lease there.
func checkPromise15(t *testing.T, m impl.Mate, rate int) (impl.Mate, int) {
	t.Helper()
	next, sent := impl.MateTick(m, rate)
	if leasesEnd(next) || next.Clock < m.Clock || next.Clock > impl.MateMaxClock {
		t.Fatalf("behind a tick of %d of %+v: %+v", rate, m, next)
	}
	checkMateValid(t, "behind a tick", next, true)
	checkSent(t, next, sent)
	leased := 0
	for _, r := range next.Runs {
		if impl.MateAlive(r) && r.Want.Hold != "" {
			leased++
		}
	}
	return next, leased
}

// checkSent holds what a mate has sent in a tick against what a valid one may say: what it asks for, then what it gives back, then once that it is here.
func checkSent(t *testing.T, m impl.Mate, sent []impl.MateParcel) {
	t.Helper()
	last := 0
	for i, p := range sent {
		ok := p.Berth == m.Name && len(p.Wants) == 0 && p.Kind >= last
		switch p.Kind {
		case impl.MateAsked:
			ok = ok && p.Seen == 0 && p.At == m.Clock && modelAsksOk([]impl.MateAsk{{Hold: p.Hold, Copy: p.Copy, At: p.At}}, m.Clock)
		case impl.MateBack:
			ok = ok && p.Seen == 0 && modelAsksOk([]impl.MateAsk{{Hold: p.Hold, Copy: p.Copy, At: p.At}}, m.Clock)
		case impl.MateHere:
			ok = ok && p.Seen == m.Seen && p.Hold == "" && p.Copy == "" && p.At == 0 && i == len(sent)-1
		default:
			ok = false
		}
		if !ok {
			t.Fatalf("it sends %+v, of %+v", sent, m)
		}
		last = p.Kind
	}
	if last != 0 && last != impl.MateHere {
		t.Fatalf("it sends no word that it is here: %+v", sent)
	}
}

// Promise 15, of one run in each state with each lease, wanted and not, by each rate, near both ends of the clock.
func TestPromise15(t *testing.T) {
	leased := 0
	for _, clock := range []int{0, 1, 50, 999994, 999995, 999996, 999997, 999998, 999999, 1000000} {
		for state := 1; state <= 6; state++ {
			for until := max(0, clock-2); until <= min(clock+20, 1000016); until++ {
				for way := range 4 {
					w := impl.MateWant{Copy: "c", Version: 1, Hold: "v", Pull: 2, Start: 2, Dies: 2, Grace: 2}
					m := impl.Mate{Name: "a", Up: way > 0, Clock: clock, Known: way > 1}
					if way > 2 {
						m.Wants = []impl.MateWant{w}
					}
					for left := range 3 {
						m.Runs = []impl.MateRun{{Want: w, State: state, Left: left, Until: until}}
						if !impl.MateValid(m) {
							continue
						}
						for rate := -1; rate <= 6; rate++ {
							_, n := checkPromise15(t, m, rate)
							leased += n
						}
					}
				}
			}
		}
	}
	if leased < 5000 {
		t.Errorf("the leases tell too little: %d", leased)
	}
}

func TestPromise15OfMany(t *testing.T) {
	t.Parallel()
	r := rand.New(rand.NewSource(64))
	leased := 0
	for range 10000 {
		_, n := checkPromise15(t, randomMate(r), pickOf(r, 0, 1, 2, 3, 4, 5, math.MaxInt))
		leased += n
	}
	if leased < 5000 {
		t.Errorf("the leases tell too little: %d", leased)
	}
}

// Promises 14 and 15 of mates that live on and on: whatever is done to them, and in whatever order, they are valid, and their clocks do not go back.
func TestPromise14OfMates(t *testing.T) {
	t.Parallel()
	r := rand.New(rand.NewSource(65))
	leased, ended := 0, 0
	for range 300 {
		m := randomMate(r)
		for range 80 {
			before := m
			switch r.Intn(16) {
			case 0:
				m = impl.MateFall(m, r.Intn(2) == 0)
			case 1, 2:
				m = impl.MateRise(m)
			case 3, 4, 5, 6, 7, 8:
				m = impl.MateTake(m, randomParcel(r, m))
			default:
				var n int
				m, n = checkPromise15(t, m, pickOf(r, 1, 2, 3, 4, 4, 4, 0))
				leased += n
			}
			if m.Name != before.Name || m.Clock < before.Clock {
				t.Fatalf("it was %+v, and is %+v", before, m)
			}
			checkMateValid(t, "a mate that lives on", m, true)
			if m.Clock == impl.MateMaxClock {
				ended++
			}
		}
	}
	if leased < 1000 || ended < 500 {
		t.Errorf("the mates tell too little: %d, %d", leased, ended)
	}
}

// A lease lasts by the berth's clock: without a new word of the book, what has it is killed ahead of its end, at whatever rates.
func TestMateLeaseIsOver(t *testing.T) {
	r := rand.New(rand.NewSource(66))
	for range 2000 {
		w := impl.MateWant{Copy: "c", Version: 1, Hold: "v"}
		until := 50 + 4 + r.Intn(13)
		m := impl.Mate{Name: "a", Up: r.Intn(3) > 0, Clock: 50, Runs: []impl.MateRun{{Want: w, State: impl.MateReady, Until: until}}}
		if m.Up && r.Intn(2) == 0 {
			m.Known, m.Seen, m.Wants = true, 1, []impl.MateWant{w}
		}
		for m.Clock < until {
			m, _ = impl.MateTick(m, 1+r.Intn(4))
			if alive := impl.MateAlive(m.Runs[0]); alive != (m.Clock+4 <= until) {
				t.Fatalf("with a lease up to %d, at %d it is alive: %v", until, m.Clock, alive)
			}
		}
	}
}

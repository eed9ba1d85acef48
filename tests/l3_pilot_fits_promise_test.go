package tests

import (
	"math/rand"
	"slices"
	"testing"

	"loop.example/wharffleet/impl"
)

// checkPromise2 holds promise 2, and the second reading, of all copies and berths of a valid fleet; codes counts what was met.
func checkPromise2(t *testing.T, f impl.PilotFleet, codes map[int]int) {
	t.Helper()
	if got, want := impl.PilotRight(f), modelRight(f); !slices.Equal(got, want) {
		t.Fatalf("PilotRight(%+v) is %q, not %q", f, got, want)
	}
	for _, c := range f.Copies {
		for _, b := range f.Berths {
			got := impl.PilotFits(f, c.Name, b.Name)
			codes[got]++
			if want := modelFits(f, c.Name, b.Name); got != want {
				t.Fatalf("PilotFits(%+v, %q, %q) is %d, not %d", f, c.Name, b.Name, got, want)
			}
			moved := withCopyAt(f, c.Name, b.Name)
			right := impl.PilotValid(moved) && !slices.Contains(impl.PilotRight(moved), c.Name)
			if (got == 0) != (right && !b.Closed) {
				t.Fatalf("PilotFits(%+v, %q, %q) is %d; moved there it is right: %v", f, c.Name, b.Name, got, right)
			}
		}
	}
}

func TestPromise2Random(t *testing.T) {
	t.Parallel()
	r := rand.New(rand.NewSource(6))
	codes := map[int]int{}
	for range 4000 {
		checkPromise2(t, randomFleet(r), codes)
	}
	for _, code := range []int{0, 1, 2, 3, 4, 5, 7, 8} {
		if codes[code] < 500 {
			t.Errorf("code %d was met %d times: the fleets tell too little", code, codes[code])
		}
	}
}

// Berths with about as many copies as may stand on one.
func TestPromise2Crowded(t *testing.T) {
	t.Parallel()
	r := rand.New(rand.NewSource(7))
	codes := map[int]int{}
	for range 120 {
		f := askedFleet(impl.PilotCopy{})
		for _, at := range []string{"a1", "a2", "b1"} {
			for range 8 + r.Intn(3) {
				f.Copies = append(f.Copies, impl.PilotCopy{At: at})
			}
		}
		f.Copies = append(f.Copies, make([]impl.PilotCopy, r.Intn(3))...)
		for i, name := range numbered(len(f.Copies), func(name string) string { return name }) {
			c := &f.Copies[i]
			c.Name, c.Service, c.Room, c.Hold = name, pickOf(r, "db", "web"), r.Intn(2), r.Intn(2)
			c.Apart = pickOf(r, 0, 0, 0, 0, 0, 0, 0, 0, 1, 2)
		}
		checkPromise2(t, f, codes)
	}
	for _, code := range []int{0, 4, 6} {
		if codes[code] < 500 {
			t.Errorf("code %d was met %d times: the fleets tell too little", code, codes[code])
		}
	}
}

// Two copies in every way that matters to each other, on three berths.
func TestPromise2AllPairs(t *testing.T) {
	t.Parallel()
	codes := map[int]int{}
	places := []string{"", "a1", "a2", "b1"}
	var copies []impl.PilotCopy
	for _, service := range []string{"db", "web"} {
		for apart := range 3 {
			for _, near := range []string{"", "db", "web"} {
				for _, at := range places {
					copies = append(copies, impl.PilotCopy{Service: service, Apart: apart, Near: near, At: at})
				}
			}
		}
	}
	for _, me := range copies {
		for _, other := range copies {
			f := askedFleet(me, other)
			f.Berths[1].Closed = true
			checkPromise2(t, f, codes)
		}
	}
	for _, code := range []int{0, 1, 4, 5} {
		if codes[code] < 500 {
			t.Errorf("code %d was met %d times: the fleets tell too little", code, codes[code])
		}
	}
}

package tests

import (
	"math/rand"
	"slices"
	"strings"
	"testing"

	"loop.example/wharffleet/impl"
)

// Of chapter 31 there is FleetWaits.

func checkWaits(t *testing.T, what string, w impl.FleetWorld, want ...string) {
	t.Helper()
	if got := impl.FleetWaits(w); !slices.Equal(got, want) {
		t.Errorf("%s: %q, not %q", what, got, want)
	}
}

func TestFleetWaits(t *testing.T) {
	checkWaits(t, "none", impl.FleetWorld{})
	checkWaits(t, "berths alone", threeBerths())
	w := withService(emptyWharf("a", "b"), webKind(), "1@a 2e 3e@b 9 10")
	checkWaits(t, "by birth", w, "web-9: fits on a", "web-10: fits on a")
	checkWaits(t, "nothing behind it", impl.FleetPlace(w))
	w.Stew.Berths[0].Drain = true
	w.Berths[1].Room = 10
	checkWaits(t, "no room", w, "web-9: 0 of 2 berths: 1 closed, 1 without room", "web-10: 0 of 2 berths: 1 closed, 1 without room")
	w = withService(w, impl.FleetKind{Service: "xl", Rank: 1, Select: "ssd"}, "1")
	checkWaits(t, "by rank", w, "xl-1: 0 of 2 berths: 1 closed, 1 not marked so", "web-9: 0 of 2 berths: 1 closed, 1 without room", "web-10: 0 of 2 berths: 1 closed, 1 without room")
	w.Berths[1].Room = 9
	checkWaits(t, "no fleet for the pilot", w)
	w.Berths[1].Room, w.Heard[0].Time = 10, -1
	checkWaits(t, "a fleet that is not valid", w)
}

func TestFleetWaitsAsRead(t *testing.T) {
	t.Parallel()
	r := rand.New(rand.NewSource(311))
	waits := 0
	for range 300 {
		w := randomWharf(r)
		f := modelPilotOf(w)
		var want []string
		if modelFleetFault(f) == "" {
			for _, c := range modelQueue(f) {
				want = append(want, strings.Join([]string{c.Name, impl.PilotWhy(f, c.Name)}, ": "))
			}
		}
		checkWaits(t, "a random one", w, want...)
		waits += len(want)
	}
	if waits < 300 {
		t.Errorf("%d wait: the fleets tell too little", waits)
	}
}

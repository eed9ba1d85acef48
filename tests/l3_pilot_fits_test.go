package tests

import (
	"fmt"
	"slices"
	"testing"

	"loop.example/wharffleet/impl"
)

// askedFleet has the copy me of web, which waits, and three berths: a1 and a2 in the zone a, b1 in the zone b.
func askedFleet(me impl.PilotCopy, others ...impl.PilotCopy) impl.PilotFleet {
	me.Name = "me"
	f := impl.PilotFleet{
		Berths: []impl.PilotBerth{
			{Name: "a1", Zone: "a", Marks: []string{"color=red", "ssd"}, Room: 10, Hold: 10},
			{Name: "a2", Zone: "a", Marks: []string{"zone=b"}, Room: 10, Hold: 10},
			{Name: "b1", Zone: "b", Room: 10, Hold: 10},
		},
		Services: []impl.PilotService{{Name: "db"}, {Name: "web"}},
		Copies:   []impl.PilotCopy{me},
	}
	for i, o := range others {
		o.Name = fmt.Sprintf("o%02d", i)
		f.Copies = append(f.Copies, o)
	}
	for i := range f.Copies {
		if f.Copies[i].Service == "" {
			f.Copies[i].Service = "web"
		}
	}
	return f
}

// checkFits holds the codes of the copy me on the three berths; they are the same wherever it stands now.
func checkFits(t *testing.T, f impl.PilotFleet, want ...int) {
	t.Helper()
	if !impl.PilotValid(f) {
		t.Fatalf("not valid: %+v", f)
	}
	for _, at := range []string{"", "a1", "a2", "b1"} {
		moved := withCopyAt(f, "me", at)
		if !impl.PilotValid(moved) {
			continue
		}
		for i, b := range []string{"a1", "a2", "b1"} {
			if got := impl.PilotFits(moved, "me", b); got != want[i] {
				t.Errorf("on %s, standing on %q: %d, not %d: %+v", b, at, got, want[i], f.Copies)
			}
		}
	}
}

func TestPilotFitsFixedAndMarked(t *testing.T) {
	checkFits(t, askedFleet(impl.PilotCopy{}), 0, 0, 0)
	checkFits(t, askedFleet(impl.PilotCopy{Fixed: "a2"}), 2, 0, 2)
	checkFits(t, askedFleet(impl.PilotCopy{Fixed: "none"}), 2, 2, 2)
	checkFits(t, askedFleet(impl.PilotCopy{Select: "ssd"}), 0, 3, 3)
	checkFits(t, askedFleet(impl.PilotCopy{Select: "color"}), 0, 3, 3)
	checkFits(t, askedFleet(impl.PilotCopy{Select: "color=red & !color=blue"}), 0, 3, 3)
	checkFits(t, askedFleet(impl.PilotCopy{Select: "!ssd"}), 3, 0, 0)
	checkFits(t, askedFleet(impl.PilotCopy{Select: "ssd=red"}), 3, 3, 3)
	checkFits(t, askedFleet(impl.PilotCopy{Select: "zone"}), 0, 0, 0)
	checkFits(t, askedFleet(impl.PilotCopy{Select: "zone=a"}), 0, 0, 3)
	checkFits(t, askedFleet(impl.PilotCopy{Select: "!zone=a"}), 3, 3, 0)
	// A mark of a2 has the name zone, too: it is of both.
	checkFits(t, askedFleet(impl.PilotCopy{Select: "zone=b"}), 3, 0, 0)
	checkFits(t, askedFleet(impl.PilotCopy{Select: "zone=a & zone=b"}), 3, 0, 3)
	checkFits(t, askedFleet(impl.PilotCopy{Select: "a1"}), 3, 3, 3)
}

func TestPilotFitsTogether(t *testing.T) {
	const anywhere, berth, zone = impl.PilotAnywhere, impl.PilotApartBerth, impl.PilotApartZone
	for _, c := range []struct {
		mine, its int
		want      []int
	}{
		{anywhere, anywhere, []int{0, 0, 0}},
		{berth, anywhere, []int{4, 0, 0}},
		{anywhere, berth, []int{4, 0, 0}},
		{berth, berth, []int{4, 0, 0}},
		{zone, anywhere, []int{4, 4, 0}},
		{anywhere, zone, []int{4, 4, 0}},
		{zone, berth, []int{4, 4, 0}},
		{berth, zone, []int{4, 4, 0}},
		{zone, zone, []int{4, 4, 0}},
	} {
		checkFits(t, askedFleet(impl.PilotCopy{Apart: c.mine}, impl.PilotCopy{Apart: c.its, At: "a1"}), c.want...)
		// Neither another service nor one that waits counts.
		checkFits(t, askedFleet(impl.PilotCopy{Apart: c.mine}, impl.PilotCopy{Apart: c.its, At: "a1", Service: "db"}), 0, 0, 0)
		checkFits(t, askedFleet(impl.PilotCopy{Apart: c.mine}, impl.PilotCopy{Apart: c.its}), 0, 0, 0)
	}
	// One of several others is enough.
	checkFits(t, askedFleet(impl.PilotCopy{}, impl.PilotCopy{At: "a1"}, impl.PilotCopy{At: "b1", Apart: berth}, impl.PilotCopy{At: "a2"}), 0, 0, 4)
	checkFits(t, askedFleet(impl.PilotCopy{Apart: berth}, impl.PilotCopy{At: "b1"}, impl.PilotCopy{At: "a2"}), 0, 4, 4)
	checkFits(t, askedFleet(impl.PilotCopy{Apart: zone}, impl.PilotCopy{At: "b1"}, impl.PilotCopy{At: "a2", Service: "db", Apart: zone}), 0, 0, 4)
}

func TestPilotFitsNear(t *testing.T) {
	near := impl.PilotCopy{Near: "db"}
	checkFits(t, askedFleet(near), 5, 5, 5)
	checkFits(t, askedFleet(near, impl.PilotCopy{Service: "db"}), 5, 5, 5)
	checkFits(t, askedFleet(near, impl.PilotCopy{Service: "db", At: "a2"}), 0, 0, 5)
	checkFits(t, askedFleet(near, impl.PilotCopy{Service: "db", At: "b1"}), 5, 5, 0)
	checkFits(t, askedFleet(near, impl.PilotCopy{Service: "db", At: "b1"}, impl.PilotCopy{Service: "db", At: "a1"}), 0, 0, 0)
	checkFits(t, askedFleet(near, impl.PilotCopy{At: "a1"}), 5, 5, 5)
	checkFits(t, askedFleet(impl.PilotCopy{Near: "other"}, impl.PilotCopy{At: "a1"}), 5, 5, 5)
	own := impl.PilotCopy{Near: "web"}
	checkFits(t, askedFleet(own), 0, 0, 0)
	checkFits(t, askedFleet(own, impl.PilotCopy{}), 0, 0, 0)
	checkFits(t, askedFleet(own, impl.PilotCopy{Service: "db", At: "a1"}), 0, 0, 0)
	checkFits(t, askedFleet(own, impl.PilotCopy{At: "a2"}), 0, 0, 5)
	checkFits(t, askedFleet(own, impl.PilotCopy{At: "b1"}), 5, 5, 0)
	checkFits(t, askedFleet(own, impl.PilotCopy{At: "b1"}, impl.PilotCopy{At: "a1"}), 0, 0, 0)
	// Near to its own and apart from it.
	checkFits(t, askedFleet(impl.PilotCopy{Near: "web", Apart: impl.PilotApartBerth}, impl.PilotCopy{At: "a1"}), 4, 0, 5)
	checkFits(t, askedFleet(impl.PilotCopy{Near: "web", Apart: impl.PilotApartZone}, impl.PilotCopy{At: "a1"}), 4, 4, 5)
}

func TestPilotFitsFullAndRoom(t *testing.T) {
	checkFits(t, askedFleet(impl.PilotCopy{Room: 10, Hold: 10}), 0, 0, 0)
	checkFits(t, askedFleet(impl.PilotCopy{Room: 11, Hold: 10}), 7, 7, 7)
	checkFits(t, askedFleet(impl.PilotCopy{Room: 10, Hold: 11}), 8, 8, 8)
	checkFits(t, askedFleet(impl.PilotCopy{Room: 11, Hold: 11}), 7, 7, 7)
	checkFits(t, askedFleet(impl.PilotCopy{Room: 7}, impl.PilotCopy{Room: 3, At: "a1"}, impl.PilotCopy{Room: 4, At: "a2"}, impl.PilotCopy{Room: 9}), 0, 7, 0)
	checkFits(t, askedFleet(impl.PilotCopy{Hold: 7}, impl.PilotCopy{Hold: 3, At: "a1"}, impl.PilotCopy{Hold: 4, At: "a2"}, impl.PilotCopy{Hold: 9}), 0, 8, 0)
	var many []impl.PilotCopy
	for range 9 {
		many = append(many, impl.PilotCopy{At: "a1"}, impl.PilotCopy{At: "a2", Service: "db"})
	}
	checkFits(t, askedFleet(impl.PilotCopy{}, many...), 0, 0, 0)
	many = append(many, impl.PilotCopy{At: "a2"})
	checkFits(t, askedFleet(impl.PilotCopy{}, many...), 0, 6, 0)
	checkFits(t, askedFleet(impl.PilotCopy{Room: 11}, many...), 7, 6, 7)
	// As the tenth there it does not stand in its own way.
	checkFits(t, withCopyAt(askedFleet(impl.PilotCopy{}, many...), "me", "a1"), 0, 6, 0)
}

// All reasons at once: each is told while those ahead of it are taken away.
func TestPilotFitsInOrder(t *testing.T) {
	var many []impl.PilotCopy
	for range 10 {
		many = append(many, impl.PilotCopy{At: "a1"})
	}
	f := askedFleet(impl.PilotCopy{Fixed: "b1", Select: "none", Apart: impl.PilotApartBerth, Near: "db", Room: 11, Hold: 11}, many...)
	f.Berths[0].Closed = true
	me := &f.Copies[0]
	for i, c := range []struct {
		code int
		take func()
	}{
		{impl.PilotClosed, func() { f.Berths[0].Closed = false }},
		{impl.PilotElsewhere, func() { me.Fixed = "" }},
		{impl.PilotMarked, func() { me.Select = "" }},
		{impl.PilotTogether, func() { me.Apart = impl.PilotAnywhere }},
		{impl.PilotFar, func() { me.Near = "" }},
		{impl.PilotFull, func() { f.Copies = f.Copies[:5] }},
		{impl.PilotRoomless, func() { me.Room = 0 }},
		{impl.PilotHoldless, func() { me.Hold = 0 }},
		{0, func() {}},
	} {
		if got := impl.PilotFits(f, "me", "a1"); got != c.code {
			t.Errorf("%d: %d, not %d", i, got, c.code)
		}
		for _, unknown := range [][2]string{{"me", "none"}, {"none", "a1"}, {"", ""}, {"a1", "me"}, {"Me", "a1"}, {"me", ""}, {"", "a1"}} {
			if got := impl.PilotFits(f, unknown[0], unknown[1]); got != impl.PilotUnknown {
				t.Errorf("PilotFits(%q) is %d", unknown, got)
			}
		}
		c.take()
		me = &f.Copies[0]
	}
}

func TestPilotFitsConstants(t *testing.T) {
	got := []int{impl.PilotClosed, impl.PilotElsewhere, impl.PilotMarked, impl.PilotTogether, impl.PilotFar, impl.PilotFull, impl.PilotRoomless, impl.PilotHoldless, impl.PilotUnknown}
	if !slices.Equal(got, []int{1, 2, 3, 4, 5, 6, 7, 8, 9}) {
		t.Error(got)
	}
}

func checkRight(t *testing.T, f impl.PilotFleet, want ...string) {
	t.Helper()
	if !impl.PilotValid(f) {
		t.Fatalf("not valid: %+v", f)
	}
	if got := impl.PilotRight(f); !slices.Equal(got, want) {
		t.Errorf("PilotRight is %q, not %q: %+v", got, want, f.Copies)
	}
}

func TestPilotRight(t *testing.T) {
	at := func(c impl.PilotCopy, berth string) impl.PilotFleet {
		c.At = berth
		return askedFleet(c)
	}
	checkRight(t, impl.PilotFleet{})
	checkRight(t, at(impl.PilotCopy{}, "a1"))
	checkRight(t, at(impl.PilotCopy{Fixed: "a2"}, "a1"), "me")
	checkRight(t, at(impl.PilotCopy{Fixed: "a2"}, "a2"))
	checkRight(t, at(impl.PilotCopy{Fixed: "a2"}, ""))
	checkRight(t, at(impl.PilotCopy{Select: "!ssd"}, "a1"), "me")
	checkRight(t, at(impl.PilotCopy{Select: "!ssd"}, "b1"))
	checkRight(t, at(impl.PilotCopy{Near: "db"}, "b1"), "me")
	checkRight(t, at(impl.PilotCopy{Near: "web", Apart: impl.PilotApartZone}, "b1"))
	checkRight(t, at(impl.PilotCopy{Room: 10, Hold: 10}, "b1"))
	// Apart holds for both of two, however they are ordered.
	checkRight(t, askedFleet(impl.PilotCopy{At: "a1", Apart: impl.PilotApartBerth}, impl.PilotCopy{At: "a1"}, impl.PilotCopy{At: "a2"}), "me", "o00")
	checkRight(t, askedFleet(impl.PilotCopy{At: "a1"}, impl.PilotCopy{At: "b1"}, impl.PilotCopy{At: "a2", Apart: impl.PilotApartZone}), "me", "o01")
	// Near to its own holds for each of them alone.
	checkRight(t, askedFleet(impl.PilotCopy{At: "a1", Near: "web"}, impl.PilotCopy{At: "b1"}), "me")
	checkRight(t, askedFleet(impl.PilotCopy{At: "a1", Near: "web"}, impl.PilotCopy{At: "b1", Near: "web"}), "me", "o00")
	checkRight(t, askedFleet(impl.PilotCopy{At: "a1", Near: "web"}, impl.PilotCopy{At: "a2", Near: "web"}))
	checkRight(t, askedFleet(impl.PilotCopy{At: "a1", Near: "web"}, impl.PilotCopy{Near: "web"}))
}

func TestPilotRightOnClosed(t *testing.T) {
	f := askedFleet(impl.PilotCopy{At: "a1"}, impl.PilotCopy{At: "a1", Fixed: "b1"}, impl.PilotCopy{At: "b1", Select: "ssd"})
	checkRight(t, f, "o00", "o01")
	f.Berths[0].Closed = true
	checkRight(t, f, "o00", "o01")
	f.Berths[2].Closed = true
	checkRight(t, f, "o00", "o01")
	f.Copies = f.Copies[:1]
	checkRight(t, f)
	if got := impl.PilotFits(f, "me", "a1"); got != impl.PilotClosed {
		t.Errorf("it stands there, and fits with %d", got)
	}
}

// A full berth, all of whose room and hold is used, is right for those that use it.
func TestPilotRightWhereFull(t *testing.T) {
	var many []impl.PilotCopy
	for range 9 {
		many = append(many, impl.PilotCopy{At: "a1", Room: 1, Hold: 1})
	}
	checkRight(t, askedFleet(impl.PilotCopy{At: "a1", Room: 1, Hold: 1}, many...))
}

func TestPilotRightIsNew(t *testing.T) {
	f := askedFleet(impl.PilotCopy{At: "a1", Fixed: "b1"}, impl.PilotCopy{At: "a2", Fixed: "b1"})
	first := impl.PilotRight(f)
	second := impl.PilotRight(f)
	first = append(first[:0], "x", "y")
	if !slices.Equal(second, []string{"me", "o00"}) || f.Copies[0].Name != "me" {
		t.Errorf("%q was written, and it is %q", first, second)
	}
}

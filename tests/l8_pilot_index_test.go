package tests

import (
	"fmt"
	"math"
	"math/rand"
	"slices"
	"strings"
	"testing"

	"loop.example/wharffleet/impl"
)

// countedFleet has copies of all kinds on its berths: a1 and a2 are in the zone a, b1 in the zone b.
func countedFleet() impl.PilotFleet {
	return lineOf(
		impl.PilotCopy{At: "a1", Room: 1, Hold: 2},
		impl.PilotCopy{At: "a1", Room: 2, Hold: 1, Apart: impl.PilotApartBerth},
		impl.PilotCopy{At: "a2", Room: 3, Apart: impl.PilotApartZone},
		impl.PilotCopy{At: "a2", Room: 1, Service: "db"},
		impl.PilotCopy{At: "b1", Hold: 10, Service: "db", Apart: impl.PilotApartZone},
		impl.PilotCopy{Room: 9, Hold: 9, Apart: impl.PilotApartZone},
		impl.PilotCopy{Service: "db"},
	)
}

// tellIndex is "berth room/hold/stand counts" for each row, then the zones, then the total.
func tellIndex(x impl.PilotIndex) string {
	var told []string
	for _, r := range x.Rows {
		told = append(told, fmt.Sprintf("%s %d/%d/%d %v", r.Berth.Name, r.Room, r.Hold, r.Stand, r.Counts))
	}
	for _, z := range x.Zones {
		told = append(told, fmt.Sprintf("%s %v", z.Name, z.Counts))
	}
	return strings.Join(append(told, fmt.Sprint(x.Total)), "; ")
}

// checkIndex holds the index of a fleet as told, and the second reading.
func checkIndex(t *testing.T, f impl.PilotFleet, want string) {
	t.Helper()
	if !impl.PilotValid(f) {
		t.Fatalf("not valid: %+v", f)
	}
	x := impl.PilotIndexOf(f)
	if got := tellIndex(x); got != want {
		t.Errorf("the index is\n%s, not\n%s", got, want)
	}
	if model := modelIndex(f); !sameIndex(x, model) {
		t.Errorf("the index is %+v, not %+v", x, model)
	}
}

func TestPilotIndexOf(t *testing.T) {
	checkIndex(t, impl.PilotFleet{}, "[]")
	checkIndex(t, lineOf(), "a1 10/10/0 []; a2 10/10/0 []; b1 10/10/0 []; a []; b []; []")
	checkIndex(t, countedFleet(), "a1 7/7/2 [{web 2 1 0}]; a2 6/10/2 [{db 1 0 0} {web 1 1 1}]; b1 10/0/1 [{db 1 1 1}]; a [{db 1 0 0} {web 3 2 1}]; b [{db 1 1 1}]; [{db 2 1 1} {web 3 2 1}]")
	// What waits is in no number.
	f := countedFleet()
	for i := range f.Copies {
		f.Copies[i].At = ""
	}
	checkIndex(t, f, "a1 10/10/0 []; a2 10/10/0 []; b1 10/10/0 []; a []; b []; []")
	// Zones ascend whatever the order of their berths; rows keep theirs.
	f = countedFleet()
	f.Berths[0].Zone, f.Berths[1].Zone, f.Berths[2].Zone = "z", "y", "z"
	checkIndex(t, f, "a1 7/7/2 [{web 2 1 0}]; a2 6/10/2 [{db 1 0 0} {web 1 1 1}]; b1 10/0/1 [{db 1 1 1}]; y [{db 1 0 0} {web 1 1 1}]; z [{db 1 1 1} {web 2 1 0}]; [{db 2 1 1} {web 3 2 1}]")
	f.Berths[1].Zone = "z"
	checkIndex(t, f, "a1 7/7/2 [{web 2 1 0}]; a2 6/10/2 [{db 1 0 0} {web 1 1 1}]; b1 10/0/1 [{db 1 1 1}]; z [{db 2 1 1} {web 3 2 1}]; [{db 2 1 1} {web 3 2 1}]")
	// A row has its berth whole.
	f.Pack, f.Berths[2].Closed = true, true
	x := impl.PilotIndexOf(f)
	if got := fmt.Sprintf("%v %+v", x.Pack, []impl.PilotBerth{x.Rows[0].Berth, x.Rows[2].Berth}); got != "true [{Name:a1 Zone:z Marks:[color=red ssd] Room:10 Hold:10 Closed:false} {Name:b1 Zone:z Marks:[] Room:10 Hold:10 Closed:true}]" {
		t.Error(got)
	}
}

func TestPilotEventConstants(t *testing.T) {
	if got := []int{impl.PilotSetBerth, impl.PilotDropBerth, impl.PilotSetCopy, impl.PilotDropCopy, impl.PilotMove}; !slices.Equal(got, []int{1, 2, 3, 4, 5}) {
		t.Error(got)
	}
}

// tellFleet is the names of the berths, each with its zone, then the copies, each with where it stands.
func tellFleet(f impl.PilotFleet) string {
	var told []string
	for _, b := range f.Berths {
		told = append(told, b.Name+"/"+b.Zone)
	}
	told = append(told, ":")
	for _, c := range f.Copies {
		told = append(told, c.Name+"@"+c.At)
	}
	return strings.Join(told, " ")
}

// checkEvent holds what an event does to a fleet, told by tellFleet, or by its code alone; PilotFollow is held against PilotIndexOf of what is behind it; it tells the fleet that is.
func checkEvent(t *testing.T, f impl.PilotFleet, e impl.PilotEvent, want string) impl.PilotFleet {
	t.Helper()
	behind, code := impl.PilotHappen(f, e)
	got := fmt.Sprint(code)
	if code == 0 {
		got = tellFleet(behind)
	} else if !sameFleet(behind, impl.PilotFleet{}) {
		t.Errorf("beside code %d stands %+v", code, behind)
	}
	if got != want {
		t.Errorf("%+v leads to %q, not %q", e, got, want)
	}
	if model, modelCode := modelHappen(f, e); code != modelCode || !sameFleet(behind, model) {
		t.Errorf("%+v leads to %d and %+v, not %d and %+v", e, code, behind, modelCode, model)
	}
	checkFollow(t, impl.PilotIndexOf(f), f, e)
	return behind
}

// checkFollow holds PilotFollow, at an x that may be no index of f.
func checkFollow(t *testing.T, x impl.PilotIndex, f impl.PilotFleet, e impl.PilotEvent) impl.PilotIndex {
	t.Helper()
	before := cloneIndex(x)
	got := impl.PilotFollow(x, f, e)
	behind, code := impl.PilotHappen(f, e)
	want := before
	switch code {
	case 0:
		want = impl.PilotIndexOf(behind)
		if model := modelIndex(behind); !sameIndex(want, model) {
			t.Fatalf("PilotIndexOf(%+v) is %+v, not %+v", behind, want, model)
		}
	case 1:
		want = impl.PilotIndex{}
	}
	if !sameIndex(got, want) {
		t.Fatalf("PilotFollow(%+v, %+v, %+v) is %+v, not %+v", before, f, e, got, want)
	}
	return got
}

func setBerth(b impl.PilotBerth) impl.PilotEvent {
	return impl.PilotEvent{Kind: impl.PilotSetBerth, Berth: b}
}

func dropBerth(name string) impl.PilotEvent {
	return impl.PilotEvent{Kind: impl.PilotDropBerth, Name: name}
}

func setCopy(c impl.PilotCopy) impl.PilotEvent {
	return impl.PilotEvent{Kind: impl.PilotSetCopy, Copy: c}
}

func dropCopy(name string) impl.PilotEvent {
	return impl.PilotEvent{Kind: impl.PilotDropCopy, Name: name}
}

func move(name, at string) impl.PilotEvent {
	return impl.PilotEvent{Kind: impl.PilotMove, Name: name, At: at}
}

// eventFleet has a and b on a1, c on b1, and d waits.
func eventFleet() impl.PilotFleet {
	return lineOf(impl.PilotCopy{At: "a1", Room: 3, Hold: 2}, impl.PilotCopy{At: "a1", Room: 5, Service: "db"}, impl.PilotCopy{At: "b1", Room: 8, Hold: 9}, impl.PilotCopy{Room: 3})
}

func TestPilotHappenSetBerth(t *testing.T) {
	f := eventFleet()
	const copies = " : a@a1 b@a1 c@b1 d@"
	// A new one comes to its place.
	checkEvent(t, f, setBerth(impl.PilotBerth{Name: "a", Zone: "z"}), "a/z a1/a a2/a b1/b"+copies)
	checkEvent(t, f, setBerth(impl.PilotBerth{Name: "a10", Zone: "b"}), "a1/a a10/b a2/a b1/b"+copies)
	checkEvent(t, f, setBerth(impl.PilotBerth{Name: "b2", Zone: "a"}), "a1/a a2/a b1/b b2/a"+copies)
	checkEvent(t, impl.PilotFleet{}, setBerth(impl.PilotBerth{Name: "b2", Zone: "a"}), "b2/a :")
	// One that is there is set anew; what stands on it stays, if there is room for it.
	zone, room, hold := f.Berths[0], f.Berths[0], f.Berths[0]
	zone.Zone = "c"
	checkEvent(t, f, setBerth(zone), "a1/c a2/a b1/b"+copies)
	zone.Zone = "b"
	checkEvent(t, f, setBerth(zone), "a1/b a2/a b1/b"+copies)
	zone.Zone = ""
	checkEvent(t, f, setBerth(zone), "2")
	for n, want := range map[int]string{8: "a1/a a2/a b1/b" + copies, 1000: "a1/a a2/a b1/b" + copies, 7: "2", 0: "2", -1: "2", 1001: "2"} {
		room.Room = n
		checkEvent(t, f, setBerth(room), want)
	}
	for n, want := range map[int]string{2: "a1/a a2/a b1/b" + copies, 1000: "a1/a a2/a b1/b" + copies, 1: "2", 0: "2", -1: "2", 1001: "2"} {
		hold.Hold = n
		checkEvent(t, f, setBerth(hold), want)
	}
	// All of it is set, and nothing of the old one stays.
	behind := checkEvent(t, f, setBerth(impl.PilotBerth{Name: "a1", Zone: "q", Room: 9, Hold: 9, Closed: true}), "a1/q a2/a b1/b"+copies)
	if got := fmt.Sprintf("%+v", behind.Berths[0]); got != "{Name:a1 Zone:q Marks:[] Room:9 Hold:9 Closed:true}" {
		t.Error(got)
	}
	for _, b := range []impl.PilotBerth{{}, {Name: "c"}, {Zone: "c"}, {Name: "A", Zone: "c"}, {Name: name21, Zone: "c"}, {Name: "c", Zone: "c", Marks: []string{"b", "a"}}, {Name: "c", Zone: "c", Room: -1}} {
		checkEvent(t, f, setBerth(b), "2")
	}
}

func TestPilotHappenDropBerth(t *testing.T) {
	f := eventFleet()
	f.Copies[0].Fixed = "a1"
	behind := checkEvent(t, f, dropBerth("a1"), "a2/a b1/b : a@ b@ c@b1 d@")
	if behind.Copies[0].Fixed != "a1" || behind.Copies[0].Room != 3 {
		t.Errorf("%+v", behind.Copies[0])
	}
	checkEvent(t, f, dropBerth("a2"), "a1/a b1/b : a@a1 b@a1 c@b1 d@")
	behind = checkEvent(t, f, dropBerth("b1"), "a1/a a2/a : a@a1 b@a1 c@ d@")
	checkEvent(t, behind, dropBerth("b1"), "3")
	for _, name := range []string{"", "c1", "a", "d", "A1", "a1 ", "web"} {
		checkEvent(t, f, dropBerth(name), "3")
	}
	for _, name := range []string{"a1", "a2", "b1"} {
		f, _ = impl.PilotHappen(f, dropBerth(name))
	}
	if got := tellFleet(f); got != ": a@ b@ c@ d@" || !sameIndex(impl.PilotIndexOf(f), impl.PilotIndex{}) {
		t.Errorf("without berths it is %q", got)
	}
}

func TestPilotHappenSetCopy(t *testing.T) {
	f := eventFleet()
	const berths = "a1/a a2/a b1/b : "
	at := func(name, service, at string, room, hold int) impl.PilotEvent {
		return setCopy(impl.PilotCopy{Name: name, Service: service, At: at, Room: room, Hold: hold})
	}
	checkEvent(t, f, at("aa", "web", "", 1000, 1000), berths+"a@a1 aa@ b@a1 c@b1 d@")
	checkEvent(t, f, at("e", "web", "b1", 2, 1), berths+"a@a1 b@a1 c@b1 d@ e@b1")
	checkEvent(t, f, at("-", "db", "a2", 10, 10), berths+"-@a2 a@a1 b@a1 c@b1 d@")
	checkEvent(t, f, at("e", "web", "b1", 3, 1), "2")
	checkEvent(t, f, at("e", "web", "b1", 2, 2), "2")
	// One that is there is set anew, also where it stands: it itself is not in its own way.
	checkEvent(t, f, at("c", "web", "b1", 10, 10), berths+"a@a1 b@a1 c@b1 d@")
	checkEvent(t, f, at("c", "web", "b1", 11, 10), "2")
	checkEvent(t, f, at("c", "web", "b1", 10, 11), "2")
	checkEvent(t, f, at("c", "db", "b1", 8, 9), berths+"a@a1 b@a1 c@b1 d@")
	checkEvent(t, f, at("c", "web", "a2", 8, 9), berths+"a@a1 b@a1 c@a2 d@")
	checkEvent(t, f, at("c", "web", "a1", 2, 8), berths+"a@a1 b@a1 c@a1 d@")
	checkEvent(t, f, at("c", "web", "a1", 3, 8), "2")
	checkEvent(t, f, at("c", "web", "", 8, 9), berths+"a@a1 b@a1 c@ d@")
	checkEvent(t, f, at("d", "web", "a1", 2, 0), berths+"a@a1 b@a1 c@b1 d@a1")
	for apart := range 3 {
		c := f.Copies[0]
		c.Apart = apart
		checkEvent(t, f, setCopy(c), berths+"a@a1 b@a1 c@b1 d@")
	}
	for _, c := range []impl.PilotCopy{{}, {Name: "e"}, {Service: "web"}, {Name: "e", Service: "none"}, {Name: "E", Service: "web"}, {Name: "e", Service: "web", At: "c1"}, {Name: "e", Service: "web", At: " "}, {Name: "a", Service: "web", Apart: 3}, {Name: "a", Service: "web", Select: "("}} {
		checkEvent(t, f, setCopy(c), "2")
	}
	behind := checkEvent(t, f, at("a", "db", "a1", 1, 1), berths+"a@a1 b@a1 c@b1 d@")
	if got := fmt.Sprint(behind.Copies[0]); got != "{a db 0 0 1 1  [] 0   a1}" {
		t.Error(got)
	}
}

func TestPilotHappenDropCopyAndMove(t *testing.T) {
	f := eventFleet()
	const berths = "a1/a a2/a b1/b : "
	checkEvent(t, f, dropCopy("a"), berths+"b@a1 c@b1 d@")
	checkEvent(t, f, dropCopy("b"), berths+"a@a1 c@b1 d@")
	checkEvent(t, f, dropCopy("d"), berths+"a@a1 b@a1 c@b1")
	checkEvent(t, f, move("a", "a2"), berths+"a@a2 b@a1 c@b1 d@")
	checkEvent(t, f, move("a", ""), berths+"a@ b@a1 c@b1 d@")
	checkEvent(t, f, move("d", ""), berths+"a@a1 b@a1 c@b1 d@")
	checkEvent(t, f, move("d", "a2"), berths+"a@a1 b@a1 c@b1 d@a2")
	// Where it stands already it may stand, also where nothing more would fit.
	checkEvent(t, f, move("c", "b1"), berths+"a@a1 b@a1 c@b1 d@")
	checkEvent(t, f, move("b", "a1"), berths+"a@a1 b@a1 c@b1 d@")
	// What would not be valid: too little room, too little hold. What does not fit otherwise may move.
	checkEvent(t, f, move("d", "a1"), "2")
	checkEvent(t, f, move("a", "b1"), "2")
	f.Copies[0].Room = 0
	checkEvent(t, f, move("a", "b1"), "2")
	f.Copies[0].Hold = 1
	checkEvent(t, f, move("a", "b1"), berths+"a@b1 b@a1 c@b1 d@")
	f.Copies[0].Fixed, f.Copies[0].Select, f.Copies[0].Apart, f.Copies[0].Near, f.Berths[2].Closed = "a1", "none", impl.PilotApartZone, "none", true
	checkEvent(t, f, move("a", "b1"), berths+"a@b1 b@a1 c@b1 d@")
	for _, name := range []string{"", "e", "A", "a1", "web", "a "} {
		checkEvent(t, f, dropCopy(name), "3")
		checkEvent(t, f, move(name, "a2"), "3")
		checkEvent(t, f, move(name, ""), "3")
		checkEvent(t, f, move("a", name+"x"), "3")
	}
	full := lineOf(slices.Repeat([]impl.PilotCopy{{At: "a1"}}, 10)...)
	full.Copies = append(full.Copies, impl.PilotCopy{Name: "z", Service: "db"})
	if _, code := impl.PilotHappen(full, move("z", "a1")); code != 2 {
		t.Errorf("as the eleventh it moves with code %d", code)
	}
	if _, code := impl.PilotHappen(full, move("j", "a1")); code != 0 {
		t.Errorf("as the tenth it moves with code %d", code)
	}
}

// Codes are looked for in the order 1, 4, 3, 2.
func TestPilotHappenWhichCode(t *testing.T) {
	f := eventFleet()
	wrong := eventFleet()
	wrong.Copies[0].Rank = -1
	for _, kind := range []int{0, 6, 7, -1, -5, 1000, math.MinInt, math.MaxInt} {
		e := impl.PilotEvent{Kind: kind, Berth: f.Berths[0], Copy: f.Copies[0], Name: "a", At: "a1"}
		checkEvent(t, f, e, "4")
		checkEvent(t, wrong, e, "1")
		e.Name, e.Berth.Room = "none", -1
		checkEvent(t, f, e, "4")
		checkEvent(t, impl.PilotFleet{}, e, "4")
	}
	for _, e := range []impl.PilotEvent{setBerth(f.Berths[0]), setBerth(impl.PilotBerth{}), dropBerth("a1"), dropBerth("none"), setCopy(f.Copies[0]), setCopy(impl.PilotCopy{}), dropCopy("a"), dropCopy("none"), move("a", "a2"), move("none", "none")} {
		checkEvent(t, wrong, e, "1")
	}
	// A copy of which there is none, to a berth that is too small: 3, not 2. A berth that is none, for one that could move: 3.
	checkEvent(t, f, move("none", "b1"), "3")
	checkEvent(t, f, move("d", "none"), "3")
	checkEvent(t, f, move("none", "none"), "3")
	// What an event does not use is not looked at.
	e := move("a", "a2")
	e.Berth, e.Copy = impl.PilotBerth{Room: -1}, impl.PilotCopy{Rank: -1}
	checkEvent(t, f, e, "a1/a a2/a b1/b : a@a2 b@a1 c@b1 d@")
	e.Kind, e.At = impl.PilotDropCopy, "none"
	checkEvent(t, f, e, "a1/a a2/a b1/b : b@a1 c@b1 d@")
	e = setCopy(impl.PilotCopy{Name: "b", Service: "web"})
	e.Name, e.At, e.Berth = "a", "a1", impl.PilotBerth{Room: -1}
	checkEvent(t, f, e, "a1/a a2/a b1/b : a@a1 b@ c@b1 d@")
	e = setBerth(impl.PilotBerth{Name: "c1", Zone: "c"})
	e.Name, e.At, e.Copy = "a1", "a1", impl.PilotCopy{Rank: -1}
	checkEvent(t, f, e, "a1/a a2/a b1/b c1/c : a@a1 b@a1 c@b1 d@")
}

// followed is the index behind events, told; each must have code 0.
func followed(t *testing.T, f impl.PilotFleet, events ...impl.PilotEvent) string {
	t.Helper()
	x := impl.PilotIndexOf(f)
	for _, e := range events {
		x = checkFollow(t, x, f, e)
		behind, code := impl.PilotHappen(f, e)
		if code != 0 {
			t.Fatalf("%+v has code %d", e, code)
		}
		f = behind
	}
	return tellIndex(x)
}

func TestPilotFollow(t *testing.T) {
	f := countedFleet()
	const b, total = "b1 10/0/1 [{db 1 1 1}]; ", "[{db 2 1 1} {web 3 2 1}]"
	zoneOf := func(name, zone string) impl.PilotEvent {
		for _, b := range f.Berths {
			if b.Name == name {
				b.Zone = zone
				return setBerth(b)
			}
		}
		panic(name)
	}
	for i, c := range []struct {
		want   string
		events []impl.PilotEvent
	}{
		// A berth that is set anew with others on it takes them to its new zone, or to one that is there; the old one stays as long as another berth is in it.
		{"a1 7/7/2 [{web 2 1 0}]; a2 6/10/2 [{db 1 0 0} {web 1 1 1}]; " + b + "a [{db 1 0 0} {web 1 1 1}]; b [{db 1 1 1}]; c [{web 2 1 0}]; " + total, []impl.PilotEvent{zoneOf("a1", "c")}},
		{"a1 7/7/2 [{web 2 1 0}]; a2 6/10/2 [{db 1 0 0} {web 1 1 1}]; " + b + "a [{db 1 0 0} {web 1 1 1}]; b [{db 1 1 1} {web 2 1 0}]; " + total, []impl.PilotEvent{zoneOf("a1", "b")}},
		{"a1 7/7/2 [{web 2 1 0}]; a2 6/10/2 [{db 1 0 0} {web 1 1 1}]; " + b + "a [{db 2 1 1} {web 3 2 1}]; " + total, []impl.PilotEvent{zoneOf("b1", "a")}},
		{"a1 7/7/2 [{web 2 1 0}]; a2 6/10/2 [{db 1 0 0} {web 1 1 1}]; " + b + "0 [{db 1 1 1}]; a [{db 1 0 0} {web 3 2 1}]; " + total, []impl.PilotEvent{zoneOf("b1", "0")}},
		{"a1 7/7/2 [{web 2 1 0}]; a2 6/10/2 [{db 1 0 0} {web 1 1 1}]; " + b + "a [{db 1 0 0} {web 3 2 1}]; b [{db 1 1 1}]; " + total, []impl.PilotEvent{zoneOf("a1", "c"), zoneOf("a2", "c"), zoneOf("a1", "a"), zoneOf("a2", "a")}},
		{"a1 0/991/2 [{web 2 1 0}]; a2 6/10/2 [{db 1 0 0} {web 1 1 1}]; " + b + "a [{db 1 0 0} {web 1 1 1}]; b [{db 1 1 1}]; q [{web 2 1 0}]; " + total, []impl.PilotEvent{setBerth(impl.PilotBerth{Name: "a1", Zone: "q", Room: 3, Hold: 994})}},
		// A zone goes with its last berth; what stood there waits, and its counts are less, or left out.
		{"a1 7/7/2 [{web 2 1 0}]; a2 6/10/2 [{db 1 0 0} {web 1 1 1}]; a [{db 1 0 0} {web 3 2 1}]; [{db 1 0 0} {web 3 2 1}]", []impl.PilotEvent{dropBerth("b1")}},
		{"a1 7/7/2 [{web 2 1 0}]; " + b + "a [{web 2 1 0}]; b [{db 1 1 1}]; [{db 1 1 1} {web 2 1 0}]", []impl.PilotEvent{dropBerth("a2")}},
		{b + "b [{db 1 1 1}]; [{db 1 1 1}]", []impl.PilotEvent{dropBerth("a1"), dropBerth("a2")}},
		{"[]", []impl.PilotEvent{dropBerth("a1"), dropBerth("a2"), dropBerth("b1")}},
		{"a1 7/7/2 [{web 2 1 0}]; a2 6/10/2 [{db 1 0 0} {web 1 1 1}]; " + b + "c1 4/5/0 []; a [{db 1 0 0} {web 3 2 1}]; b [{db 1 1 1}]; c []; " + total, []impl.PilotEvent{setBerth(impl.PilotBerth{Name: "c1", Zone: "c", Room: 4, Hold: 5})}},
		// Copies that come, go and move.
		{"a1 7/7/2 [{web 2 1 0}]; a2 7/10/1 [{web 1 1 1}]; " + b + "a [{web 3 2 1}]; b [{db 1 1 1}]; [{db 1 1 1} {web 3 2 1}]", []impl.PilotEvent{dropCopy("d")}},
		{"a1 7/7/2 [{web 2 1 0}]; a2 6/10/2 [{db 1 0 0} {web 1 1 1}]; b1 10/10/0 []; a [{db 1 0 0} {web 3 2 1}]; b []; [{db 1 0 0} {web 3 2 1}]", []impl.PilotEvent{move("e", "")}},
		{"a1 7/7/2 [{web 2 1 0}]; a2 6/10/2 [{db 1 0 0} {web 1 1 1}]; " + b + "a [{db 1 0 0} {web 3 2 1}]; b [{db 1 1 1}]; " + total, []impl.PilotEvent{move("e", "b1"), move("f", ""), dropCopy("f"), dropCopy("g")}},
		{"a1 8/9/1 [{web 1 1 0}]; a2 6/10/2 [{db 1 0 0} {web 1 1 1}]; b1 9/0/2 [{db 1 1 1} {web 1 0 0}]; a [{db 1 0 0} {web 2 2 1}]; b [{db 1 1 1} {web 1 0 0}]; " + total, []impl.PilotEvent{setCopy(impl.PilotCopy{Name: "a", Service: "web", At: "b1", Room: 1})}},
		{"a1 7/7/2 [{db 1 0 0} {web 1 1 0}]; a2 6/10/2 [{db 1 0 0} {web 1 1 1}]; " + b + "a [{db 2 0 0} {web 2 2 1}]; b [{db 1 1 1}]; [{db 3 1 1} {web 2 2 1}]", []impl.PilotEvent{setCopy(impl.PilotCopy{Name: "a", Service: "db", At: "a1", Room: 1, Hold: 2})}},
		{"a1 7/7/2 [{web 2 2 1}]; a2 6/10/2 [{db 1 0 0} {web 1 1 1}]; " + b + "a [{db 1 0 0} {web 3 3 2}]; b [{db 1 1 1}]; [{db 2 1 1} {web 3 3 2}]", []impl.PilotEvent{setCopy(impl.PilotCopy{Name: "a", Service: "web", At: "a1", Room: 1, Hold: 2, Apart: 2})}},
		{"a1 0/0/2 [{web 2 1 0}]; a2 6/10/2 [{db 1 0 0} {web 1 1 1}]; " + b + "a [{db 1 0 0} {web 3 2 1}]; b [{db 1 1 1}]; " + total, []impl.PilotEvent{setCopy(impl.PilotCopy{Name: "a", Service: "web", At: "a1", Room: 8, Hold: 9})}},
	} {
		if got := followed(t, f, c.events...); got != c.want {
			t.Errorf("case %d: the index is\n%s, not\n%s", i, got, c.want)
		}
	}
}

// What x is counts for nothing with code 0, and is told as it is with another one; nothing if the fleet is not valid.
func TestPilotFollowAtAnotherIndex(t *testing.T) {
	f := countedFleet()
	wrong := countedFleet()
	wrong.Services = nil
	packed := impl.PilotIndexOf(f)
	packed.Pack = true
	for _, x := range []impl.PilotIndex{{}, packed, impl.PilotIndexOf(eventFleet()), impl.PilotIndexOf(smallFleet()), noIndex()} {
		for _, e := range []impl.PilotEvent{setBerth(f.Berths[1]), dropBerth("a1"), setCopy(f.Copies[0]), dropCopy("a"), move("a", "a2")} {
			if _, code := impl.PilotHappen(f, e); code != 0 {
				t.Fatalf("%+v has code %d", e, code)
			}
			checkFollow(t, x, f, e)
			checkFollow(t, x, wrong, e)
		}
		for code, e := range map[int]impl.PilotEvent{2: setBerth(impl.PilotBerth{}), 3: dropBerth("none"), 4: {Kind: 6}} {
			if _, got := impl.PilotHappen(f, e); got != code {
				t.Fatalf("%+v has code %d", e, got)
			}
			if got := checkFollow(t, x, f, e); !sameIndex(got, x) {
				t.Errorf("with code %d %+v is %+v", code, x, got)
			}
			if got := checkFollow(t, x, wrong, e); !sameIndex(got, impl.PilotIndex{}) {
				t.Errorf("of a fleet that is not valid %+v is %+v", x, got)
			}
		}
	}
}

// noIndex is what no fleet has.
func noIndex() impl.PilotIndex {
	counts := []impl.PilotCount{{Service: "web", N: -3, Zone: 9}, {}, {Service: "web", N: math.MaxInt}, {Service: "A b"}}
	return impl.PilotIndex{
		Pack:  true,
		Rows:  []impl.PilotRow{{Berth: impl.PilotBerth{Name: "No", Marks: []string{"b", "a", ""}, Room: -4}, Room: math.MinInt, Stand: -1, Counts: counts}, {Counts: counts}, {}},
		Zones: []impl.PilotZone{{Name: "z", Counts: counts}, {Name: "a"}, {Name: "z"}, {}},
		Total: counts,
	}
}

func TestPilotIndexNotValid(t *testing.T) {
	r := rand.New(rand.NewSource(44))
	met := 0
	for range 1500 {
		f := roomyFleet(r)
		x, e := impl.PilotIndexOf(f), randomEvent(r, f)
		breaks(r, &f)
		if modelFleetFault(f) == "" {
			continue
		}
		met++
		if got := impl.PilotIndexOf(f); !sameIndex(got, impl.PilotIndex{}) {
			t.Fatalf("PilotIndexOf(%+v) is %+v", f, got)
		}
		if behind, code := impl.PilotHappen(f, e); code != 1 || !sameFleet(behind, impl.PilotFleet{}) {
			t.Fatalf("PilotHappen(%+v, %+v) is %+v, %d", f, e, behind, code)
		}
		if got := impl.PilotFollow(x, f, e); !sameIndex(got, impl.PilotIndex{}) {
			t.Fatalf("PilotFollow(%+v, %+v, %+v) is %+v", x, f, e, got)
		}
		for _, c := range append(f.Copies, impl.PilotCopy{}, impl.PilotCopy{Name: "none"}) {
			if got := impl.PilotWhy(f, c.Name); got != "" {
				t.Fatalf("PilotWhy(%+v, %q) is %q", f, c.Name, got)
			}
		}
	}
	if met < 300 {
		t.Errorf("%d fleets were not valid", met)
	}
}

// Fleets at their limits: one more of anything is refused, and what is there may be set anew.
func TestPilotIndexGreatest(t *testing.T) {
	for _, c := range [][3]int{{12, 4, 12}, {12, 5, 0}, {6, 10, 0}, {5, 10, 10}, {12, 0, 60}} {
		f := greatFleet(c[0], c[1], c[2])
		if !impl.PilotValid(f) || len(f.Copies) != impl.PilotMaxCopies {
			t.Fatalf("%v: not valid", c)
		}
		x := impl.PilotIndexOf(f)
		if !sameIndex(x, modelIndex(f)) {
			t.Errorf("%v: the index is %+v", c, x)
		}
		berth, copy := f.Berths[0], f.Copies[0]
		for name, want := range map[string][2]int{"n000": {0, 0}, "z": {2, 2}, "a": {2, 2}} {
			berth.Name, copy.Name = name, name
			if name == "n000" || len(f.Berths) == impl.PilotMaxBerths {
				if _, code := impl.PilotHappen(f, setBerth(berth)); code != want[0] {
					t.Errorf("%v: a berth %q has code %d", c, name, code)
				}
			}
			if _, code := impl.PilotHappen(f, setCopy(copy)); code != want[1] {
				t.Errorf("%v: a copy %q has code %d", c, name, code)
			}
			checkFollow(t, x, f, setBerth(berth))
			checkFollow(t, x, f, setCopy(copy))
		}
		for _, b := range f.Berths {
			checkFollow(t, x, f, dropBerth(b.Name))
		}
		for _, copy := range f.Copies {
			checkFollow(t, x, f, dropCopy(copy.Name))
			checkFollow(t, x, f, move(copy.Name, ""))
			checkFollow(t, x, f, move(copy.Name, f.Berths[1].Name))
			if got, want := impl.PilotAsk(x, copy), impl.PilotChoose(f, copy.Name); copy.At == "" && got != want {
				t.Errorf("%v: PilotAsk of %+v is %q, not %q", c, copy, got, want)
			}
		}
	}
}

// sparedIndex is an index whose lists have room behind their ends, filled, so that a write there is seen.
func sparedIndex(x impl.PilotIndex) impl.PilotIndex {
	x = cloneIndex(x)
	count := impl.PilotCount{Service: "behind"}
	x.Rows = append(x.Rows, impl.PilotRow{Stand: 7})[:len(x.Rows)]
	x.Zones = append(x.Zones, impl.PilotZone{Name: "behind"})[:len(x.Zones)]
	x.Total = append(x.Total, count)[:len(x.Total)]
	for i := range x.Rows {
		r := &x.Rows[i]
		r.Counts = append(r.Counts, count)[:len(r.Counts)]
		r.Berth.Marks = append(r.Berth.Marks, "behind")[:len(r.Berth.Marks)]
	}
	for i := range x.Zones {
		z := &x.Zones[i]
		z.Counts = append(z.Counts, count)[:len(z.Counts)]
	}
	return x
}

// wholeIndex is an index with what stands behind the ends of its lists, told.
func wholeIndex(x impl.PilotIndex) string {
	x.Rows, x.Zones, x.Total = slices.Clone(x.Rows[:len(x.Rows)+1]), slices.Clone(x.Zones[:len(x.Zones)+1]), x.Total[:len(x.Total)+1]
	for i := range x.Rows[:len(x.Rows)-1] {
		r := &x.Rows[i]
		r.Counts, r.Berth.Marks = r.Counts[:len(r.Counts)+1], r.Berth.Marks[:len(r.Berth.Marks)+1]
	}
	for i := range x.Zones[:len(x.Zones)-1] {
		z := &x.Zones[i]
		z.Counts = z.Counts[:len(z.Counts)+1]
	}
	return fmt.Sprintf("%+v", x)
}

func TestPilotIndexMemory(t *testing.T) {
	r := rand.New(rand.NewSource(45))
	marks, likes := []string{"ssd"}, []impl.PilotLike{{Select: "ssd", Weight: 1}}
	codes := map[int]int{}
	for i := range 1500 {
		f := spared(roomyFleet(r))
		e := randomEvent(r, f)
		e.Berth.Marks, e.Copy.Likes = append(slices.Clone(e.Berth.Marks), "behind")[:len(e.Berth.Marks)], append(slices.Clone(e.Copy.Likes), impl.PilotLike{Select: "behind"})[:len(e.Copy.Likes)]
		x := sparedIndex(impl.PilotIndexOf(f))
		if i%5 == 0 {
			x = sparedIndex(noIndex())
		}
		if i%2 == 0 { // lists that are shared by the arguments themselves
			for j := range f.Berths {
				f.Berths[j].Marks = marks
			}
			for j := range f.Copies {
				f.Copies[j].Likes = likes
			}
			for j := range x.Rows {
				x.Rows[j].Counts = x.Total
			}
			for j := range x.Zones {
				x.Zones[j].Counts = x.Total
			}
		}
		told, event := wholeIndex(x), fmt.Sprintf("%+v %q %+v", e, e.Berth.Marks[:len(e.Berth.Marks)+1], e.Copy.Likes[:len(e.Copy.Likes)+1])
		behind, code := impl.PilotHappen(f, e)
		codes[code]++
		checkOwnMemory(t, []any{f, e}, []any{behind})
		checkOwnMemory(t, []any{f}, []any{impl.PilotIndexOf(f)})
		checkOwnMemory(t, []any{x, f, e}, []any{impl.PilotFollow(x, f, e)})
		for _, c := range f.Copies {
			impl.PilotAsk(x, c)
		}
		checkUnchanged(t, f, func(f impl.PilotFleet) {
			impl.PilotIndexOf(f)
			impl.PilotHappen(f, e)
			impl.PilotFollow(x, f, e)
			for _, c := range f.Copies {
				impl.PilotWhy(f, c.Name)
			}
		})
		if wholeIndex(x) != told {
			t.Fatalf("the index was %s, and is %s", told, wholeIndex(x))
		}
		if now := fmt.Sprintf("%+v %q %+v", e, e.Berth.Marks[:len(e.Berth.Marks)+1], e.Copy.Likes[:len(e.Copy.Likes)+1]); now != event {
			t.Fatalf("the event was %s, and is %s", event, now)
		}
	}
	if codes[0] < 300 || codes[2] < 100 || codes[3] < 50 || codes[4] < 10 {
		t.Errorf("codes were met so often: %v: the events tell too little", codes)
	}
}

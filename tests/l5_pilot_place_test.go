package tests

import (
	"math/rand"
	"reflect"
	"slices"
	"strings"
	"testing"

	"loop.example/wharffleet/impl"
)

// lineOf makes a fleet with copies named a, b, c.. of web, unless they say otherwise, on the berths of an askedFleet.
func lineOf(copies ...impl.PilotCopy) impl.PilotFleet {
	f := askedFleet(impl.PilotCopy{})
	f.Copies = nil
	for i, c := range copies {
		c.Name = string(rune('a' + i))
		if c.Service == "" {
			c.Service = "web"
		}
		f.Copies = append(f.Copies, c)
	}
	return f
}

func checkQueue(t *testing.T, f impl.PilotFleet, want string) {
	t.Helper()
	if got := strings.Join(impl.PilotQueue(f), " "); got != want {
		t.Errorf("PilotQueue is %q, not %q: %+v", got, want, f.Copies)
	}
}

func TestPilotQueue(t *testing.T) {
	ranked := func(ranks ...int) impl.PilotFleet {
		var list []impl.PilotCopy
		for _, r := range ranks {
			list = append(list, impl.PilotCopy{Rank: r})
		}
		return lineOf(list...)
	}
	born := func(births ...int) impl.PilotFleet {
		var list []impl.PilotCopy
		for _, b := range births {
			list = append(list, impl.PilotCopy{Born: b, Rank: 7})
		}
		return lineOf(list...)
	}
	checkQueue(t, impl.PilotFleet{}, "")
	checkQueue(t, lineOf(), "")
	checkQueue(t, ranked(0), "a")
	checkQueue(t, ranked(0, 100, 50), "b c a")
	checkQueue(t, ranked(3, 1, 4, 1, 5, 9, 2, 6), "f h e c a g b d")
	checkQueue(t, ranked(5, 5, 5), "a b c")
	checkQueue(t, born(2, 1000000, 0, 1), "c d a b")
	checkQueue(t, born(9, 9, 1, 9, 1), "c e a b d")
	// Rank counts ahead of Born, and Born ahead of Name; size counts for nothing.
	checkQueue(t, lineOf(impl.PilotCopy{Rank: 1}, impl.PilotCopy{Rank: 2, Born: 9}, impl.PilotCopy{Rank: 1, Room: 1000}, impl.PilotCopy{Rank: 2, Born: 8, Fixed: "none"}), "d b a c")
	// What stands is not in it.
	checkQueue(t, lineOf(impl.PilotCopy{At: "a1", Rank: 9}, impl.PilotCopy{}, impl.PilotCopy{At: "b1"}), "b")
	checkQueue(t, lineOf(impl.PilotCopy{At: "a1"}, impl.PilotCopy{At: "b1"}), "")
	// Names are held against each other byte by byte.
	f := lineOf(impl.PilotCopy{}, impl.PilotCopy{}, impl.PilotCopy{}, impl.PilotCopy{})
	for i, name := range []string{"a", "a-", "a10", "a9"} {
		f.Copies[i].Name = name
	}
	checkQueue(t, f, "a a- a10 a9")
}

// checkPlaced holds the steps of PilotPlace, told as "copy>berth", and that the fleet in the end is what they lead to.
func checkPlaced(t *testing.T, f impl.PilotFleet, want string) {
	t.Helper()
	if !impl.PilotValid(f) {
		t.Fatalf("not valid: %+v", f)
	}
	got, steps := impl.PilotPlace(f)
	end := cloneFleet(f)
	var told []string
	for _, s := range steps {
		told = append(told, s.Copy+">"+s.Berth)
		end = withCopyAt(end, s.Copy, s.Berth)
		if len(s.Gone) != 0 {
			t.Errorf("gone are %q", s.Gone)
		}
	}
	if line := strings.Join(told, " "); line != want {
		t.Errorf("the steps are %q, not %q: %+v", line, want, f)
	}
	if !sameFleet(got, end) {
		t.Errorf("the fleet is %+v, not %+v", got, end)
	}
}

// sameFleet takes the empty and the nil list for one.
func sameFleet(a, b impl.PilotFleet) bool {
	return reflect.DeepEqual(withoutEmpty(a), withoutEmpty(b))
}

func withoutEmpty(f impl.PilotFleet) impl.PilotFleet {
	f.Berths, f.Services, f.Copies = nilIfEmpty(f.Berths), nilIfEmpty(f.Services), nilIfEmpty(f.Copies)
	for i := range f.Berths {
		f.Berths[i].Marks = nilIfEmpty(f.Berths[i].Marks)
	}
	for i := range f.Copies {
		f.Copies[i].Likes = nilIfEmpty(f.Copies[i].Likes)
	}
	return f
}

// nilIfEmpty is another list: what it is made of stays as it is.
func nilIfEmpty[T any](list []T) []T {
	return append([]T(nil), list...)
}

func TestPilotPlace(t *testing.T) {
	checkPlaced(t, impl.PilotFleet{}, "")
	checkPlaced(t, impl.PilotFleet{Pack: true}, "")
	checkPlaced(t, lineOf(), "")
	checkPlaced(t, lineOf(impl.PilotCopy{At: "a2", Rank: 9}), "")
	// They spread: over the zones first, then over the berths.
	checkPlaced(t, lineOf(impl.PilotCopy{}, impl.PilotCopy{}, impl.PilotCopy{}, impl.PilotCopy{}, impl.PilotCopy{}), "a>a1 b>b1 c>a2 d>b1 e>a1")
	checkPlaced(t, lineOf(impl.PilotCopy{Rank: 1}, impl.PilotCopy{Rank: 2}, impl.PilotCopy{Rank: 3}), "c>a1 b>b1 a>a2")
	checkPlaced(t, lineOf(impl.PilotCopy{Born: 3}, impl.PilotCopy{Born: 2}, impl.PilotCopy{Born: 1}), "c>a1 b>b1 a>a2")
	// What stands is left where it is, also if it is not right there.
	checkPlaced(t, lineOf(impl.PilotCopy{At: "a1", Fixed: "b1"}, impl.PilotCopy{}, impl.PilotCopy{At: "b1", Select: "none"}), "b>a2")
	// One that fits nowhere is passed over.
	checkPlaced(t, lineOf(impl.PilotCopy{Rank: 9, Room: 11}, impl.PilotCopy{Rank: 8, Fixed: "none"}, impl.PilotCopy{Rank: 7, Room: 10}, impl.PilotCopy{Rank: 6, Select: "zone=c"}, impl.PilotCopy{}), "c>a1 e>b1")
	checkPlaced(t, lineOf(impl.PilotCopy{Room: 11}, impl.PilotCopy{Hold: 11}, impl.PilotCopy{Near: "other"}), "")
}

// The fleet that is packed fills one berth ahead of another.
func TestPilotPlacePack(t *testing.T) {
	db := func(room int) impl.PilotCopy { return impl.PilotCopy{Service: "db", Room: room} }
	f := lineOf(db(4), db(4), impl.PilotCopy{Room: 3}, impl.PilotCopy{Room: 3})
	checkPlaced(t, f, "a>a1 b>b1 c>a2 d>b1")
	f.Pack = true
	checkPlaced(t, f, "a>a1 b>b1 c>a1 d>b1")
}

func TestPilotPlaceClosedAndFull(t *testing.T) {
	f := lineOf(impl.PilotCopy{}, impl.PilotCopy{}, impl.PilotCopy{At: "a1"})
	f.Berths[0].Closed, f.Berths[2].Closed = true, true
	checkPlaced(t, f, "a>a2 b>a2")
	f.Berths[1].Closed = true
	checkPlaced(t, f, "")
	var list []impl.PilotCopy
	for range 9 {
		list = append(list, impl.PilotCopy{At: "b1", Service: "db"})
	}
	list = append(list, impl.PilotCopy{Fixed: "b1"}, impl.PilotCopy{Fixed: "b1"}, impl.PilotCopy{Fixed: "b1", Rank: 1})
	checkPlaced(t, lineOf(list...), "l>b1")
}

// A copy fits only when a later one of the queue stands.
func TestPilotPlaceBeginsAgain(t *testing.T) {
	const zone = "!zone=a"
	checkPlaced(t, lineOf(impl.PilotCopy{Rank: 9, Near: "db"}, impl.PilotCopy{Rank: 1, Service: "db", Select: zone}), "b>b1 a>b1")
	// It comes ahead of what is behind the one that was placed, and takes the room that is left.
	checkPlaced(t, lineOf(
		impl.PilotCopy{Rank: 9, Near: "db", Room: 6}, impl.PilotCopy{Rank: 2, Service: "db", Select: zone, Room: 4}, impl.PilotCopy{Rank: 1, Room: 6, Select: zone},
	), "b>b1 a>b1")
	// One that was passed over twice, and one that is between.
	f := lineOf(
		impl.PilotCopy{Rank: 9, Near: "db"}, impl.PilotCopy{Rank: 8, Near: "web"}, impl.PilotCopy{Rank: 7, Service: "db", Near: "web"}, impl.PilotCopy{Rank: 6, Select: zone},
	)
	f.Copies[1].Service, f.Copies[2].Near = "db", "cache"
	f.Services = []impl.PilotService{{Name: "cache"}, {Name: "db"}, {Name: "web"}}
	checkPlaced(t, f, "d>b1 b>b1 a>b1")
	// What is apart from its own is never placed by a later one.
	checkPlaced(t, lineOf(impl.PilotCopy{Rank: 9, Apart: 2, Fixed: "a1"}, impl.PilotCopy{At: "a2"}, impl.PilotCopy{}), "c>b1")
}

func TestPilotPlaceNearItsOwn(t *testing.T) {
	near := impl.PilotCopy{Near: "web"}
	checkPlaced(t, lineOf(near, near, near), "a>a1 b>a2 c>a1")
	// The first stands alone: the others follow it; one that is not near to its own does not, and the first is alone in its zone then.
	only := near
	only.Fixed = "b1"
	checkPlaced(t, lineOf(only, near, impl.PilotCopy{}), "a>b1 b>b1 c>a1")
	f := lineOf(only, impl.PilotCopy{})
	checkPlaced(t, f, "a>b1 b>a1")
	end, _ := impl.PilotPlace(f)
	if got := impl.PilotRight(end); !slices.Equal(got, []string{"a"}) {
		t.Errorf("not right are %q", got)
	}
	// Near to its own and apart from it by zones: the second waits.
	apart := near
	apart.Apart = impl.PilotApartZone
	checkPlaced(t, lineOf(apart, apart), "a>a1")
	apart.Apart = impl.PilotApartBerth
	checkPlaced(t, lineOf(apart, apart, apart), "a>a1 b>a2")
}

// The greatest fleet: all copies wait, and all berths are filled up.
func TestPilotPlaceGreatest(t *testing.T) {
	f := impl.PilotFleet{Services: []impl.PilotService{{Name: "web"}}}
	f.Berths = numbered(impl.PilotMaxBerths, func(name string) impl.PilotBerth {
		return impl.PilotBerth{Name: name, Zone: "z" + name[3:], Marks: []string{"ssd"}, Room: 1000, Hold: 1000}
	})
	long := strings.Repeat("!(ssd&", 9) + "ssd" + strings.Repeat(")", 9)
	f.Copies = numbered(impl.PilotMaxCopies, func(name string) impl.PilotCopy {
		return impl.PilotCopy{Name: name, Service: "web", Room: 250, Hold: 250, Select: long + " | ssd", Likes: []impl.PilotLike{{Select: long}, {Select: "ssd & " + long}, {Select: long, Weight: 2}, {Weight: 3}, {Select: "a"}}}
	})
	end, steps := impl.PilotPlace(f)
	if len(steps) != 48 || !impl.PilotValid(end) {
		t.Fatalf("%d steps", len(steps))
	}
	for _, b := range end.Berths {
		if room, hold := impl.PilotUsed(end, b.Name); room != 1000 || hold != 1000 {
			t.Errorf("%s: %d and %d", b.Name, room, hold)
		}
	}
	if got := impl.PilotQueue(end); len(got) != 12 || got[0] != "n048" {
		t.Errorf("%q wait", got)
	}
}

// checkPromise4 holds the second reading and promise 4 of a valid fleet; it tells the steps.
func checkPromise4(t *testing.T, f impl.PilotFleet) []impl.PilotStep {
	t.Helper()
	if got, want := impl.PilotQueue(f), modelQueueNames(f); !slices.Equal(got, want) {
		t.Fatalf("PilotQueue(%+v) is %q, not %q", f, got, want)
	}
	end, steps := impl.PilotPlace(f)
	wantEnd, wantSteps := modelPlace(f)
	if !sameFleet(end, wantEnd) || !slices.EqualFunc(steps, wantSteps, func(a, b impl.PilotStep) bool { return a.Copy == b.Copy && a.Berth == b.Berth && len(a.Gone) == 0 }) {
		t.Fatalf("PilotPlace(%+v) is %+v, %+v, not %+v, %+v", f, end, steps, wantEnd, wantSteps)
	}
	if !impl.PilotValid(end) {
		t.Fatalf("PilotPlace(%+v) is not valid: %+v", f, end)
	}
	for i, c := range end.Copies {
		if at := f.Copies[i].At; at != "" && at != c.At {
			t.Fatalf("PilotPlace(%+v) moved %q", f, c.Name)
		}
		for _, b := range end.Berths {
			if c.At == "" && impl.PilotFits(end, c.Name, b.Name) == 0 {
				t.Fatalf("PilotPlace(%+v): %q waits, and fits on %q", f, c.Name, b.Name)
			}
		}
	}
	if len(impl.PilotRight(f)) == 0 {
		checkRightBehind(t, f, end)
	}
	return steps
}

// checkRightBehind holds that of each service one copy alone may be not right, if it is to be near to its own and stands alone in its zone.
func checkRightBehind(t *testing.T, f, end impl.PilotFleet) {
	t.Helper()
	first := map[string]string{}
	for _, name := range impl.PilotRight(end) {
		c, _ := modelCopy(end, name)
		zone := end.Berths[slices.IndexFunc(end.Berths, func(b impl.PilotBerth) bool { return b.Name == c.At })].Zone
		own := 0
		for _, o := range modelInZone(end, zone) {
			if o.Service == c.Service {
				own++
			}
		}
		if c.Near != c.Service || own != 1 || first[c.Service] != "" {
			t.Fatalf("PilotPlace(%+v): %q is not right", f, name)
		}
		first[c.Service] = name
	}
}

func TestPromise4Random(t *testing.T) {
	t.Parallel()
	r := rand.New(rand.NewSource(11))
	placed, again, near := 0, 0, 0
	for range 4000 {
		f := waitingFleet(r)
		steps := checkPromise4(t, f)
		placed += len(steps)
		queue := modelQueueNames(f)
		for i := range steps {
			if i > 0 && slices.Index(queue, steps[i].Copy) < slices.Index(queue, steps[i-1].Copy) {
				again++
			}
		}
		if end, _ := impl.PilotPlace(f); len(impl.PilotRight(f)) == 0 && len(impl.PilotRight(end)) > 0 {
			near++
		}
	}
	if placed < 3000 || again < 50 || near < 10 {
		t.Errorf("%d steps, %d times back, %d times not right behind: the fleets tell too little", placed, again, near)
	}
}

// Fleets in which all that stood were right, and much is placed.
func TestPromise4FromNothing(t *testing.T) {
	t.Parallel()
	r := rand.New(rand.NewSource(12))
	for range 2000 {
		f := evenFleet(randomFleet(r))
		for i := range f.Berths {
			f.Berths[i].Zone = pickOf(r, "east", "west")
		}
		checkPromise4(t, f)
		end, _ := impl.PilotPlace(f)
		checkPromise4(t, end)
	}
}

func isTwin(a, b impl.PilotCopy) bool {
	b.Name, b.Born = a.Name, a.Born
	return reflect.DeepEqual(a, b)
}

func TestPromise5Random(t *testing.T) {
	t.Parallel()
	r := rand.New(rand.NewSource(13))
	older := 0
	for range 5000 {
		f := twinFleet(r)
		end, _ := impl.PilotPlace(f)
		for i, a := range f.Copies {
			for j, b := range f.Copies {
				if a.At != "" || b.At != "" || a.Born >= b.Born || !isTwin(a, b) {
					continue
				}
				if end.Copies[i].At == "" && end.Copies[j].At != "" {
					t.Fatalf("PilotPlace(%+v): %q stands and the older %q waits", f, b.Name, a.Name)
				}
				if end.Copies[i].At != "" && end.Copies[j].At == "" {
					older++
				}
			}
		}
	}
	if older < 500 {
		t.Errorf("of %d twins the older alone stood: the fleets tell too little", older)
	}
}

func TestPromise5(t *testing.T) {
	for _, c := range []struct {
		births [3]int
		want   string
	}{{[3]int{3, 2, 1}, "c>a1 b>b1"}, {[3]int{1, 2, 3}, "a>a1 b>b1"}, {[3]int{2, 1, 3}, "b>a1 a>b1"}, {[3]int{1, 1, 0}, "c>a1 a>b1"}, {[3]int{1000000, 0, 1000000}, "b>a1 a>b1"}} {
		var list []impl.PilotCopy
		for _, b := range c.births {
			list = append(list, impl.PilotCopy{Born: b, Room: 6, Apart: impl.PilotApartZone})
		}
		checkPlaced(t, lineOf(list...), c.want)
	}
}

func TestPilotPlaceNotValid(t *testing.T) {
	r := rand.New(rand.NewSource(14))
	met := 0
	for range 1500 {
		f := waitingFleet(r)
		breaks(r, &f)
		if modelFleetFault(f) == "" {
			continue
		}
		met++
		if got := impl.PilotQueue(f); len(got) != 0 {
			t.Fatalf("PilotQueue(%+v) is %q", f, got)
		}
		if end, steps := impl.PilotPlace(f); !sameFleet(end, impl.PilotFleet{}) || len(steps) != 0 {
			t.Fatalf("PilotPlace(%+v) is %+v and %+v", f, end, steps)
		}
	}
	if met < 300 {
		t.Errorf("%d fleets were not valid", met)
	}
	many := impl.PilotFleet{Pack: true, Services: []impl.PilotService{{Name: "web"}}, Berths: []impl.PilotBerth{{Name: "b", Zone: "z"}}}
	many.Copies = numbered(impl.PilotMaxCopies+1, func(name string) impl.PilotCopy { return impl.PilotCopy{Name: name, Service: "web"} })
	if end, steps := impl.PilotPlace(many); !sameFleet(end, impl.PilotFleet{}) || len(steps) != 0 || len(impl.PilotQueue(many)) != 0 {
		t.Errorf("with 61 copies: %+v and %+v", end, steps)
	}
	many.Copies = many.Copies[:impl.PilotMaxCopies]
	if _, steps := impl.PilotPlace(many); len(steps) != impl.PilotMaxStand || len(impl.PilotQueue(many)) != 60 {
		t.Errorf("with 60 copies: %+v", steps)
	}
}

func TestPilotPlaceMemory(t *testing.T) {
	r := rand.New(rand.NewSource(15))
	marks, likes := []string{"ssd"}, []impl.PilotLike{{Select: "ssd", Weight: 1}}
	for i := range 500 {
		f := spared(waitingFleet(r))
		if i%2 == 0 { // lists that are shared by the fleet itself
			for j := range f.Berths {
				f.Berths[j].Marks = marks
			}
			for j := range f.Copies {
				f.Copies[j].Likes = likes
			}
		}
		end, steps := impl.PilotPlace(f)
		checkOwnMemory(t, []any{f}, []any{end, steps})
		checkOwnMemory(t, []any{f}, []any{impl.PilotQueue(f)})
		checkUnchanged(t, f, func(f impl.PilotFleet) {
			impl.PilotQueue(f)
			impl.PilotPlace(f)
		})
	}
}

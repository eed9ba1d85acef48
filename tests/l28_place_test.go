package tests

import (
	"fmt"
	"math/rand"
	"reflect"
	"slices"
	"strings"
	"testing"

	"loop.example/wharffleet/impl"
)

// closedIn are the berths that the pilot is shown as closed.
func closedIn(t *testing.T, w impl.FleetWorld) string {
	t.Helper()
	checkPlaceAndTell(t, "closed", w, noNote)
	var closed []string
	for _, b := range impl.FleetPilot(w).Berths {
		if b.Closed {
			closed = append(closed, b.Name)
		}
	}
	return strings.Join(closed, " ")
}

func TestFleetPilotClosed(t *testing.T) {
	w := threeBerths()
	if got := closedIn(t, w); got != "" {
		t.Error(got)
	}
	w.Stew.Berths[1].Drain = true
	if got := closedIn(t, w); got != "b" {
		t.Error(got)
	}
	w.Mates.Land.Time = 100
	w.Heard[0].Time, w.Heard[1].Time, w.Heard[2].Time = 100, 100, 0
	if got := closedIn(t, w); got != "b c" {
		t.Error(got)
	}
	w.Heard[1].Time = 0 // to be drained and silent
	if got := closedIn(t, w); got != "b c" {
		t.Error(got)
	}
	w.Stew.Berths[1].Drain = false // silent alone
	if got := closedIn(t, w); got != "b c" {
		t.Error(got)
	}
	w.Heard[1].Time = 100 // neither
	if got := closedIn(t, w); got != "c" {
		t.Error(got)
	}
	// Just at the patience, and one more.
	for time := 0; time <= 90; time += 2 {
		for heard := 0; heard <= time; heard++ {
			w := emptyWharf("a", "b")
			w.Mates.Land.Time, w.Heard[0].Time, w.Heard[1].Time = time, time, heard
			want := map[bool]string{true: "b"}[time-heard >= 41]
			if got := closedIn(t, w); got != want {
				t.Errorf("at %d, heard at %d: %q", time, heard, got)
			}
		}
	}
	w = emptyWharf("a")
	w.Mates.Land.Time = 2000000
	for heard, want := range map[int]string{2000000: "", 1999960: "", 1999959: "a", 0: "a"} {
		w.Heard[0].Time = heard
		if got := closedIn(t, w); got != want {
			t.Errorf("heard at %d: %q", heard, got)
		}
	}
}

func TestFleetPilotFields(t *testing.T) {
	w := emptyWharf("a", "b")
	w.Berths[0] = impl.PilotBerth{Name: "a", Zone: "east", Marks: []string{"color=red", "ssd"}, Room: 77, Hold: 66}
	w = withService(w, impl.FleetKind{Service: "db", Rank: 9, Room: 5, Hold: 6, Select: "ssd & zone=east", Apart: impl.PilotApartZone, Volume: true, Pull: 1, Start: 2, Grace: 3}, "4 5@a:33")
	w.Stew.Services[0].Down, w.Stew.Services[0].Over = 7, 2
	w = withService(w, impl.FleetKind{Service: "web"}, "999999@b:0")
	w.Stew.Services[1].Down, w.Stew.Services[1].Next = 0, 1000000
	checkWharf(t, "each field", w, "")
	want := impl.PilotFleet{
		Berths: []impl.PilotBerth{
			{Name: "a", Zone: "east", Marks: []string{"color=red", "ssd"}, Room: 77, Hold: 66},
			{Name: "b", Zone: "z", Room: 1000, Hold: 1000},
		},
		Services: []impl.PilotService{{Name: "db", Spare: 7}, {Name: "web"}},
		Copies: []impl.PilotCopy{
			{Name: "db-4", Service: "db", Rank: 9, Born: 4, Room: 5, Hold: 6, Select: "ssd & zone=east", Apart: impl.PilotApartZone},
			{Name: "db-5", Service: "db", Rank: 9, Born: 5, Room: 5, Hold: 6, Select: "ssd & zone=east", Apart: impl.PilotApartZone, At: "a"},
			{Name: "web-999999", Service: "web", Born: 999999, At: "b"},
		},
	}
	if got := impl.FleetPilot(w); !sameFleet(got, want) || got.Pack {
		t.Errorf("%+v, not %+v", got, want)
	}
}

// shownIn are the names of the copies that the pilot is shown, and where they stand.
func shownIn(w impl.FleetWorld) string {
	var shown []string
	for _, c := range impl.FleetPilot(w).Copies {
		shown = append(shown, c.Name+"@"+c.At)
	}
	return strings.Join(shown, " ")
}

func TestFleetPilotCopies(t *testing.T) {
	for copies, want := range map[string]string{
		"":                 "",
		"1":                "web-1@",
		"1@a":              "web-1@a",
		"1e":               "",
		"1e@a":             "web-1@a",
		"1 2e 3e@b 4@b 5e": "web-1@ web-3@b web-4@b",
		"8 9 10 11 100":    "web-10@ web-100@ web-11@ web-8@ web-9@",
		"1@a 2@b 10@a":     "web-1@a web-10@a web-2@b",
	} {
		w := withService(emptyWharf("a", "b"), webKind(), copies)
		checkWharf(t, copies, w, "")
		if got := shownIn(w); got != want {
			t.Errorf("%s: %q, not %q", copies, got, want)
		}
	}
	// By names over all services: what is a beginning of another one's name is not always ahead of it.
	w := withService(withService(withService(emptyWharf("a"), impl.FleetKind{Service: "a"}, "1@a 2"), impl.FleetKind{Service: "a-"}, "1"), impl.FleetKind{Service: "a-1"}, "3")
	checkWharf(t, "names that begin so", w, "")
	if got := shownIn(w); got != "a--1@ a-1@a a-1-3@ a-2@" {
		t.Error(got)
	}
	w = withService(withService(emptyWharf("a"), impl.FleetKind{Service: "a"}, "9"), impl.FleetKind{Service: "a-0"}, "1")
	if got := shownIn(w); got != "a-0-1@ a-9@" {
		t.Error(got)
	}
}

// States tell nothing to the pilot: a copy that has failed stands where it is.
func TestFleetPilotStates(t *testing.T) {
	for _, state := range []int{impl.StewStarting, impl.StewReady, impl.StewFailed} {
		for _, ending := range []string{"", "e"} {
			w := withService(emptyWharf("a", "b"), webKind(), "1"+ending+"@b")
			w.Stew.Copies[0].State = state
			checkWharf(t, "a state", w, "")
			if got := shownIn(w); got != "web-1@b" {
				t.Error(got)
			}
		}
	}
}

// placedIn are the copies that are placed: their names, berths, slots, states and versions.
func placedIn(w impl.FleetWorld) string {
	slots := map[string]int{}
	for _, s := range w.Slots {
		slots[fmt.Sprint(s.Service, "-", s.Number)] = s.Slot
	}
	var placed []string
	for _, c := range w.Stew.Copies {
		if name := fmt.Sprint(c.Service, "-", c.Number); c.Berth != "" && !c.Ending {
			placed = append(placed, fmt.Sprintf("%s@%s:%d/%d/v%d", name, c.Berth, slots[name], c.State, c.Version))
		}
	}
	return strings.Join(placed, " ")
}

// checkFleetPlace holds what is placed behind FleetPlace, and that nothing else has changed but Now.
func checkFleetPlace(t *testing.T, what string, w impl.FleetWorld, now int, want string) impl.FleetWorld {
	t.Helper()
	checkWharf(t, what, w, "")
	next := impl.FleetPlace(w)
	checkWharf(t, what+", behind", next, "")
	if got := placedIn(next); got != want || next.Stew.Now != now {
		t.Errorf("%s: %s at %d, not %s at %d", what, got, next.Stew.Now, want, now)
	}
	rest, was := next, w
	rest.Stew.Now, rest.Stew.Copies, rest.Slots = was.Stew.Now, was.Stew.Copies, was.Slots
	if !sameWharf(rest, was) {
		t.Errorf("%s: something else has changed: %+v, and was %+v", what, next, w)
	}
	return next
}

func TestFleetPlaceOrdinary(t *testing.T) {
	web := func(copies string) impl.FleetWorld { return withService(emptyWharf("a", "b"), webKind(), copies) }
	checkFleetPlace(t, "no service", threeBerths(), 5, "")
	checkFleetPlace(t, "no copy", web(""), 5, "")
	checkFleetPlace(t, "nothing waits", web("1@a 2@b"), 5, "web-1@a:1/3/v1 web-2@b:2/3/v1")
	checkFleetPlace(t, "what is Ending does not wait", web("1e 2e@b"), 5, "")
	checkFleetPlace(t, "one", web("1"), 6, "web-1@a:0/2/v6")
	checkFleetPlace(t, "several", web("1 2 3"), 6, "web-1@a:0/2/v6 web-2@b:1/2/v6 web-3@a:2/2/v6")
	checkFleetPlace(t, "one beside others", web("1@a:0 2 3@a:1"), 6, "web-1@a:0/3/v1 web-2@b:2/2/v6 web-3@a:1/3/v1")
	checkFleetPlace(t, "nothing that is placed is moved", web("1@b:9 2@b:8 3@b:7"), 5, "web-1@b:9/3/v1 web-2@b:8/3/v1 web-3@b:7/3/v1")
	// The elder one is first in the queue: 9 ahead of 10, though its name is behind.
	checkFleetPlace(t, "by birth", web("9 10"), 6, "web-9@a:0/2/v6 web-10@b:1/2/v6")
	// What is Ending takes up its berth until it is gone: the other one has fewer of the service.
	checkFleetPlace(t, "beside what is Ending", web("1e@a 2"), 6, "web-2@b:0/2/v6")
	w := web("1 2")
	w.Stew.Berths[0].Drain = true
	checkFleetPlace(t, "a berth to be drained", w, 6, "web-1@b:0/2/v6 web-2@b:1/2/v6")
	w.Stew.Berths[1].Drain = true
	checkFleetPlace(t, "all to be drained", w, 5, "")
	w = web("1 2")
	w.Mates.Land.Time, w.Heard[1].Time = 42, 2
	checkFleetPlace(t, "a silent berth", w, 6, "web-1@b:0/2/v6 web-2@b:1/2/v6")
	w.Heard[1].Time = 0
	checkFleetPlace(t, "all silent", w, 5, "")
	// What no berth has room for waits on, and what is behind it in the queue does not.
	w = withService(web("1 2"), impl.FleetKind{Service: "xl", Rank: 9, Room: 1000}, "1 2 3")
	checkFleetPlace(t, "one that is too great", w, 6, "xl-1@a:0/2/v6 xl-2@b:1/2/v6")
	w.Kinds[1].Room = 999
	checkFleetPlace(t, "one that is too great for both", w, 6, "xl-1@a:0/2/v6 xl-2@b:1/2/v6")
	w.Kinds[1].Room = 990
	checkFleetPlace(t, "just enough for others", w, 6, "web-1@a:0/2/v6 web-2@b:1/2/v6 xl-1@a:0/2/v6 xl-2@b:1/2/v6")
	w.Kinds[1].Rank = 0 // web and xl by turns: web-1, xl-1, web-2, xl-2 by birth and name
	checkFleetPlace(t, "by birth over services", w, 6, "web-1@a:0/2/v6 web-2@b:1/2/v6 xl-1@b:0/2/v6 xl-2@a:1/2/v6")
}

// Images and what else a copy has stay as they are; only Version, State and Berth change.
func TestFleetPlaceFields(t *testing.T) {
	w := withService(emptyWharf("a"), webKind(), "3 7")
	w.Stew.Copies[0].Image, w.Stew.Copies[1].Version = 2, 4
	next := checkFleetPlace(t, "fields", w, 6, "web-3@a:0/2/v6 web-7@a:1/2/v6")
	want := []impl.StewCopy{
		{Service: "web", Number: 3, Version: 6, Image: 2, State: impl.StewStarting, Berth: "a"},
		{Service: "web", Number: 7, Version: 6, Image: 3, State: impl.StewStarting, Berth: "a"},
	}
	if !slices.Equal(next.Stew.Copies, want) || !reflect.DeepEqual(next.Stew.Services, w.Stew.Services) {
		t.Errorf("%+v", next.Stew)
	}
}

func TestFleetPlaceSlots(t *testing.T) {
	for copies, want := range map[string]string{
		"1@a:0 2@a:1 3":                   "web-3:2",
		"1@a:1 2@a:2 3":                   "web-3:0",
		"1@a:0 2@a:2 3":                   "web-3:1",
		"1@a:2 2@a:0 3":                   "web-3:1",
		"1@a:99 2":                        "web-2:0",
		"1@a:0 2@a:99 3 4":                "web-3:1 web-4:2",
		"1@a:3 2@a:1 3 4 5 6":             "web-3:0 web-4:2 web-5:4 web-6:5",
		"1 2@a:0 3 4@a:2 5":               "web-1:1 web-3:3 web-5:4",
		"1e@a 2@a:1 3":                    "web-3:0",
		"9 10 11":                         "web-9:0 web-10:1 web-11:2",
		"1@a:5 2@a:4 3@a:3 4@a:2 5@a:1 6": "web-6:0",
		"1@a:0 2@a:1 3@a:2 4@a:3 5@a:4 6": "web-6:5",
	} {
		// A second service with any slots, and a third with none: they have their own.
		w := withService(emptyWharf("a"), impl.FleetKind{Service: "db"}, "1@a:0 2@a:1 3@a:7")
		w = withService(withService(w, webKind(), copies), impl.FleetKind{Service: "xeb"}, "1")
		checkWharf(t, copies, w, "")
		next := impl.FleetPlace(w)
		checkWharf(t, copies+", behind", next, "")
		var got []string
		for _, s := range next.Slots {
			if !slices.Contains(w.Slots, s) && s.Service == "web" {
				got = append(got, fmt.Sprintf("%s-%d:%d", s.Service, s.Number, s.Slot))
			}
		}
		if strings.Join(got, " ") != want || !slices.Contains(next.Slots, slotOf("xeb", 1, 0)) || !slices.Equal(next.Slots[:3], w.Slots[:3]) {
			t.Errorf("%s: %q, not %q: %+v", copies, got, want, next.Slots)
		}
	}
	// The order is that of the steps, by birth, and not that of the names.
	w := withService(emptyWharf("a"), impl.FleetKind{Service: "web"}, "3 20")
	checkFleetPlace(t, "by birth", w, 6, "web-3@a:0/2/v6 web-20@a:1/2/v6")
}

func TestFleetPlaceAtTheEndOfVersions(t *testing.T) {
	for now, want := range map[int]string{
		999998:  "web-1@a:0/2/v999999",
		999999:  "web-1@a:0/2/v1000000",
		1000000: "",
	} {
		w := withService(emptyWharf("a"), webKind(), "1")
		w.Stew.Now = now
		checkFleetPlace(t, fmt.Sprint("now ", now), w, min(now+1, 1000000), want)
	}
	// Nothing to place is no change, whatever Now is.
	w := withService(emptyWharf("a"), webKind(), "1@a")
	for _, now := range []int{1, 999999, 1000000} {
		w.Stew.Now = now
		checkFleetPlace(t, fmt.Sprint("nothing at ", now), w, now, "web-1@a:1/3/v1")
	}
}

// Where the pilot's fleet is none, nothing is placed, also what would fit.
func TestFleetPlaceWithoutAPilot(t *testing.T) {
	small := func(w impl.FleetWorld) impl.FleetWorld {
		for i := range w.Kinds {
			w.Kinds[i].Room, w.Kinds[i].Hold = 0, 0
		}
		return w
	}
	spread := func(n int) string {
		var words []string
		for i := range n {
			words = append(words, fmt.Sprintf("%d@%s:%d", i+1, []string{"a", "b", "c", "d"}[i%4], i))
		}
		return strings.Join(words, " ")
	}
	check := func(what string, w impl.FleetWorld, placed bool) {
		t.Helper()
		checkWharf(t, what, w, "")
		f, next := impl.FleetPilot(w), impl.FleetPlace(w)
		if impl.PilotValid(f) != placed || len(f.Copies) == 0 {
			t.Errorf("%s: PilotValid is %v, of %d copies", what, impl.PilotValid(f), len(f.Copies))
		}
		if sameWharf(next, w) == placed {
			t.Errorf("%s: placed are %d, and %d before", what, len(next.Slots), len(w.Slots))
		}
	}
	four := func() impl.FleetWorld { return emptyWharf("a", "b", "c", "d") }
	// Ten on each berth are as many as may stand; the others wait.
	check("60 copies, 39 of which stand", small(withService(withService(four(), webKind(), spread(39)), impl.FleetKind{Service: "xeb"}, strings.Join(numberedWords(21, ""), " "))), true)
	check("61 copies, 39 of which stand", small(withService(withService(four(), webKind(), spread(39)), impl.FleetKind{Service: "xeb"}, strings.Join(numberedWords(22, ""), " "))), false)
	check("60 copies, and 100 that are Ending without a berth", small(withService(withService(four(), webKind(), strings.Join(numberedWords(100, "e"), " ")), impl.FleetKind{Service: "xeb"}, strings.Join(numberedWords(60, ""), " "))), true)
	check("60 copies, and one that is Ending on a berth", small(withService(withService(four(), webKind(), "1e@a"), impl.FleetKind{Service: "xeb"}, strings.Join(numberedWords(60, ""), " "))), false)
	check("ten on one berth", small(withService(emptyWharf("a", "b"), webKind(), strings.Join(numberedWords(10, "@a"), " ")+" 11")), true)
	check("eleven on one berth", small(withService(emptyWharf("a", "b"), webKind(), strings.Join(numberedWords(11, "@a"), " ")+" 12")), false)
	check("eleven on one berth, one of which is Ending", small(withService(emptyWharf("a", "b"), webKind(), strings.Join(numberedWords(10, "@a"), " ")+" 11e@a 12")), false)
	w := withService(emptyWharf("a", "b"), webKind(), "1@a 2@a 3")
	w.Berths[0].Room = 20
	check("just as much room", w, true)
	w.Berths[0].Room = 19
	check("more than its room", w, false)
	w.Berths[0].Room, w.Berths[0].Hold = 20, 1
	check("more than its hold", w, false)
	// As many as may be placed at once.
	w = small(withService(four(), webKind(), strings.Join(numberedWords(60, ""), " ")))
	next := impl.FleetPlace(w)
	checkWharf(t, "sixty", next, "")
	if len(next.Slots) != 40 || next.Slots[39].Slot != 39 {
		t.Errorf("%d are placed: %+v", len(next.Slots), next.Slots)
	}
}

func checkFleetWants(t *testing.T, what string, w impl.FleetWorld, berth string, want ...impl.MateWant) {
	t.Helper()
	checkWharf(t, what, w, "")
	if got := impl.FleetWants(w, berth); !slices.Equal(got, want) {
		t.Errorf("%s: %q is to run %+v, not %+v", what, berth, got, want)
	}
}

func TestFleetWants(t *testing.T) {
	checkFleetWants(t, "no copies", threeBerths(), "a")
	checkFleetWants(t, "no berth", threeBerths(), "")
	checkFleetWants(t, "a berth that is not there", threeBerths(), "d")
	w := withService(emptyWharf("a", "b"), webKind(), "1@a:0 2@b:7 3e@a 4 5e 10@a:10 9@a:99")
	w.Stew.Copies[5], w.Stew.Copies[6] = w.Stew.Copies[6], w.Stew.Copies[5]
	w.Slots[2], w.Slots[3] = w.Slots[3], w.Slots[2]
	w.Stew.Services[0].Next = 11
	w.Stew.Copies[0].Image = 8 // its own image, not that of the service
	want := impl.MateWant{Copy: "web-1", Version: 8, Hold: "v-web-0", Pull: 1, Start: 2, Grace: 4}
	ten, nine := want, want
	ten.Copy, ten.Version, ten.Hold = "web-10", 3, "v-web-10"
	nine.Copy, nine.Version, nine.Hold = "web-9", 3, "v-web-99"
	checkFleetWants(t, "several", w, "a", want, ten, nine)
	two := nine
	two.Copy, two.Hold = "web-2", "v-web-7"
	checkFleetWants(t, "one", w, "b", two)
	checkFleetWants(t, "of no berth", w, "")
	checkFleetWants(t, "of another berth", w, "c")
	w.Kinds[0].Volume = false
	want.Hold, ten.Hold, nine.Hold = "", "", ""
	checkFleetWants(t, "without a volume", w, "a", want, ten, nine)
	// Of several services, by names and not by services.
	w = withService(withService(emptyWharf("a"), impl.FleetKind{Service: "a", Volume: true, Pull: 7}, "9@a:0"), impl.FleetKind{Service: "a-0", Start: 100, Grace: 99, Rank: 9, Room: 1, Hold: 1}, "1@a:0")
	checkFleetWants(t, "two services", w, "a", impl.MateWant{Copy: "a-0-1", Version: 3, Start: 100, Grace: 99}, impl.MateWant{Copy: "a-9", Version: 3, Hold: "v-a-0", Pull: 7})
	// The longest names that may be: they are names for the mates all the same.
	w = withService(emptyWharf("a"), impl.FleetKind{Service: "eightlet", Volume: true, Pull: 100, Start: 100, Grace: 100}, "999999@a:99")
	w.Stew.Services[0].Next, w.Stew.Copies[0].Image = 1000000, 1000000
	long := impl.MateWant{Copy: "eightlet-999999", Version: 1000000, Hold: "v-eightlet-99", Pull: 100, Start: 100, Grace: 100}
	checkFleetWants(t, "the longest", w, "a", long)
	if !impl.MateWantsOk([]impl.MateWant{long}) {
		t.Error("the longest are not ok")
	}
	// Every state but waiting, on berths that are silent or to be drained.
	for _, state := range []int{impl.StewStarting, impl.StewReady, impl.StewFailed} {
		w := withService(emptyWharf("a"), impl.FleetKind{Service: "web"}, "1@a")
		w.Stew.Copies[0].State, w.Stew.Berths[0].Drain, w.Mates.Land.Time = state, true, 1000
		checkFleetWants(t, "a state", w, "a", impl.MateWant{Copy: "web-1", Version: 3})
	}
	// More than a berth can be told are wanted all the same.
	w = withService(emptyWharf("a"), webKind(), strings.Join(numberedWords(99, "@a"), " "))
	if got := impl.FleetWants(w, "a"); len(got) != 99 || got[1].Copy != "web-10" || got[98].Copy != "web-99" {
		t.Errorf("%d: %+v", len(got), got)
	}
}

// toldIn are the places: a berth, its Seen, and names with their holds.
func toldIn(w impl.FleetWorld) string {
	var all []string
	for _, p := range w.Mates.Land.Places {
		text := fmt.Sprint(p.Berth, " ", p.Seen)
		for _, want := range p.Wants {
			text += " " + want.Copy + "=" + strings.TrimPrefix(want.Hold, "v-")
		}
		all = append(all, text)
	}
	return strings.Join(all, "; ")
}

// checkFleetTell holds what is told, and that nothing has changed but the places.
func checkFleetTell(t *testing.T, what string, w impl.FleetWorld, want string) impl.FleetWorld {
	t.Helper()
	checkWharf(t, what, w, "")
	next := impl.FleetTell(w)
	checkWharf(t, what+", behind", next, "")
	if got := toldIn(next); got != want {
		t.Errorf("%s: told is %q, not %q", what, got, want)
	}
	rest := next
	rest.Mates.Land.Places = w.Mates.Land.Places
	if !sameWharf(rest, w) {
		t.Errorf("%s: something else has changed: %+v, and was %+v", what, next, w)
	}
	if again := impl.FleetTell(next); !sameWharf(again, next) {
		t.Errorf("%s: told again: %q", what, toldIn(again))
	}
	return next
}

// withPlace adds a place, behind those that are there.
func withPlace(w impl.FleetWorld, berth string, seen int, wants ...impl.MateWant) impl.FleetWorld {
	w.Mates.Land.Places = append(slices.Clone(w.Mates.Land.Places), impl.MatePlace{Berth: berth, Seen: seen, Wants: wants})
	return w
}

// webWant is what is wanted of a copy of webKind with this slot.
func webWant(number, slot int) impl.MateWant {
	return impl.MateWant{Copy: fmt.Sprint("web-", number), Version: 3, Hold: fmt.Sprint("v-web-", slot), Pull: 1, Start: 2, Grace: 4}
}

func TestFleetTellOrdinary(t *testing.T) {
	web := func(copies string) impl.FleetWorld { return withService(emptyWharf("a", "b"), webKind(), copies) }
	checkFleetTell(t, "nothing to tell", threeBerths(), "")
	checkFleetTell(t, "no place, and nothing to run", web("1 2e@a 3e"), "")
	checkFleetTell(t, "one place is new", web("1@b:0"), "b 1 web-1=web-0")
	checkFleetTell(t, "both are new", web("1@b:0 2@a:1 3@b:2"), "a 1 web-2=web-1; b 1 web-1=web-0 web-3=web-2")
	checkFleetTell(t, "as it is already", withPlace(web("1@a:0"), "a", 7, webWant(1, 0)), "a 7 web-1=web-0")
	checkFleetTell(t, "a place that wants nothing, and is to", withPlace(web(""), "a", 7), "a 7")
	checkFleetTell(t, "it grows", withPlace(web("1@a:0 2@a:1"), "a", 7, webWant(1, 0)), "a 8 web-1=web-0 web-2=web-1")
	checkFleetTell(t, "it grows from nothing", withPlace(web("1@a:0"), "a", 7), "a 8 web-1=web-0")
	checkFleetTell(t, "it shrinks", withPlace(web("1@a:0"), "a", 7, webWant(1, 0), webWant(2, 1)), "a 8 web-1=web-0")
	checkFleetTell(t, "it shrinks to nothing", withPlace(web(""), "a", 7, webWant(1, 0), webWant(2, 1)), "a 8")
	checkFleetTell(t, "both", withPlace(web("1@a:0 3@a:2"), "a", 7, webWant(1, 0), webWant(2, 1)), "a 9 web-1=web-0 web-3=web-2")
	checkFleetTell(t, "all goes, and others come", withPlace(web("3@a:2"), "a", 7, webWant(1, 0)), "a 9 web-3=web-2")
	checkFleetTell(t, "what is Ending goes", withPlace(web("1e@a 2@a:1"), "a", 7, webWant(1, 0), webWant(2, 1)), "a 8 web-2=web-1")
	// What is changed in any way is not among what is wanted: it goes first, and then comes.
	for what, change := range map[string]func(w *impl.MateWant){
		"version": func(w *impl.MateWant) { w.Version = 2 },
		"hold":    func(w *impl.MateWant) { w.Hold = "v-web-9" },
		"no hold": func(w *impl.MateWant) { w.Hold = "" },
		"pull":    func(w *impl.MateWant) { w.Pull = 2 },
		"start":   func(w *impl.MateWant) { w.Start = 3 },
		"dies":    func(w *impl.MateWant) { w.Dies = 1 },
		"grace":   func(w *impl.MateWant) { w.Grace = 5 },
	} {
		had := webWant(1, 0)
		change(&had)
		checkFleetTell(t, what, withPlace(web("1@a:0 2@a:1"), "a", 7, had, webWant(2, 1)), "a 9 web-1=web-0 web-2=web-1")
	}
	// Berths that are silent or to be drained are told, too.
	w := web("1@a:0 2@b:1")
	w.Stew.Berths[0].Drain, w.Mates.Land.Time = true, 1000
	checkFleetTell(t, "silent and to be drained", w, "a 1 web-1=web-0; b 1 web-2=web-1")
}

// What is to go is told ahead of what comes, over all berths: else a hold would be wanted in two places.
func TestFleetTellGoesFirst(t *testing.T) {
	web := func(copies string) impl.FleetWorld { return withService(emptyWharf("a", "b", "c"), webKind(), copies) }
	// The volume 0 goes from b to a, which is told ahead of b.
	w := withPlace(withPlace(web("2@a:0"), "a", 4), "b", 7, webWant(1, 0))
	if _, code := impl.MatePut(w.Mates.Land, "a", impl.FleetWants(w, "a")); code != 3 {
		t.Fatalf("the case tells nothing: code %d", code)
	}
	checkFleetTell(t, "from b to a", w, "a 5 web-2=web-0; b 8")
	checkFleetTell(t, "from a to b", withPlace(web("2@b:0"), "a", 4, webWant(1, 0)), "a 5; b 1 web-2=web-0")
	checkFleetTell(t, "a and b change", withPlace(withPlace(web("3@a:1 4@b:0"), "a", 4, webWant(1, 0)), "b", 7, webWant(2, 1)), "a 6 web-3=web-1; b 9 web-4=web-0")
	checkFleetTell(t, "a circle", withPlace(withPlace(withPlace(web("4@a:1 5@b:2 6@c:0"), "a", 4, webWant(1, 0)), "b", 7, webWant(2, 1)), "c", 1, webWant(3, 2)), "a 6 web-4=web-1; b 9 web-5=web-2; c 3 web-6=web-0")
	// Two copies of one berth change their volumes: both go first.
	checkFleetTell(t, "within a", withPlace(web("1@a:1 2@a:0"), "a", 4, webWant(1, 0), webWant(2, 1)), "a 6 web-1=web-1 web-2=web-0")
	// A copy is wanted elsewhere, with its volume.
	checkFleetTell(t, "a copy elsewhere", withPlace(withPlace(web("1@a:0"), "b", 7, webWant(1, 0)), "c", 9), "a 1 web-1=web-0; b 8; c 9")
	// What stays is wanted all along: only what goes is told first.
	w = withPlace(withPlace(web("1@a:0 3@a:5 4@b:2"), "a", 4, webWant(1, 0), webWant(2, 2)), "b", 7, webWant(9, 5))
	checkFleetTell(t, "one stays", w, "a 6 web-1=web-0 web-3=web-5; b 9 web-4=web-2")
}

func TestFleetTellCodes(t *testing.T) {
	web := func(copies string) impl.FleetWorld { return withService(emptyWharf("a", "b", "c"), webKind(), copies) }
	ten, eleven := "", ""
	for i := range 11 {
		eleven = ten
		ten += fmt.Sprintf(" %d@b:%d", 11+i, 11+i)
	}
	ten, eleven = eleven, ten
	names := func(n int) string {
		text := ""
		for i := range n {
			text += fmt.Sprintf(" web-%d=web-%d", 11+i, 11+i)
		}
		return text
	}
	// Code 2: a berth can't be told of more than ten; the others are.
	checkFleetTell(t, "ten", web("1@a:0"+ten), "a 1 web-1=web-0; b 1"+names(10))
	checkFleetTell(t, "eleven", web("1@a:0"+eleven+" 30@c:1"), "a 1 web-1=web-0; c 1 web-30=web-1")
	checkFleetTell(t, "eleven, some of which are told already", withPlace(web("1@a:0"+eleven), "b", 7, webWant(11, 11), webWant(12, 12)), "a 1 web-1=web-0; b 7 web-11=web-11 web-12=web-12")
	checkFleetTell(t, "eleven, and what goes is told all the same", withPlace(web("1@a:0"+eleven), "b", 7, webWant(11, 11), webWant(9, 9)), "a 1 web-1=web-0; b 8 web-11=web-11")
	// Code 3: the place's versions are at their end.
	checkFleetTell(t, "the last version but one, for two words", withPlace(withPlace(web("1@a:0 3@b:1"), "a", 999999, webWant(2, 2)), "b", 7), "a 1000000; b 8 web-3=web-1")
	checkFleetTell(t, "the last version but one, for one word", withPlace(web("1@a:0 3@b:1"), "a", 999999), "a 1000000 web-1=web-0; b 1 web-3=web-1")
	checkFleetTell(t, "the last version", withPlace(withPlace(web("1@a:0 3@b:1"), "a", 1000000, webWant(2, 2)), "b", 7), "a 1000000 web-2=web-2; b 8 web-3=web-1")
	checkFleetTell(t, "the last version, and nothing to tell", withPlace(web("1@a:0 3@b:1"), "a", 1000000, webWant(1, 0)), "a 1000000 web-1=web-0; b 1 web-3=web-1")
	// Code 3: a hold is yet wanted elsewhere, since that place can't be told.
	checkFleetTell(t, "a hold that can't go", withPlace(withPlace(web("1@a:0 3@c:1"), "a", 4), "b", 1000000, webWant(2, 0)), "a 4; b 1000000 web-2=web-0; c 1 web-3=web-1")
	checkFleetTell(t, "a hold that can't go, behind", withPlace(withPlace(web("1@c:0 3@b:1"), "a", 1000000, webWant(2, 0)), "c", 5, webWant(4, 4)), "a 1000000 web-2=web-0; b 1 web-3=web-1; c 6")
	// With a code nothing of the list comes, also what could.
	checkFleetTell(t, "one of two", withPlace(web("1@a:0 3@a:1"), "b", 1000000, webWant(2, 0)), "b 1000000 web-2=web-0")
	// The names of berths that the stewards and the pilot know are names for the mates: there is no code for these.
	checkFleetTell(t, "a long name", withService(emptyWharf(strings.Repeat("z", 20)), webKind(), "1@"+strings.Repeat("z", 20)+":0"), strings.Repeat("z", 20)+" 1 web-1=web-0")
}

// brokenWharves are fleets in each of which one part is not as in a valid one.
func brokenWharves() map[string]impl.FleetWorld {
	broken := map[string]impl.FleetWorld{}
	for what, change := range map[string]func(w *impl.FleetWorld){
		"Stew":    func(w *impl.FleetWorld) { w.Stew.Now = -1 },
		"Mates":   func(w *impl.FleetWorld) { w.Mates.Land.Time = 1 },
		"Berths":  func(w *impl.FleetWorld) { w.Berths[2].Closed = true },
		"Heard":   func(w *impl.FleetWorld) { w.Heard[2].Time = 101 },
		"Kinds":   func(w *impl.FleetWorld) { w.Kinds[0].Rank = 101 },
		"Slots":   func(w *impl.FleetWorld) { w.Slots[4].Slot = 1 },
		"Reports": func(w *impl.FleetWorld) { w.Reports[2].Seen = -1 },
	} {
		w := fullWharf()
		change(&w)
		broken[what] = w
	}
	return broken
}

// A fleet that is not valid has nothing, whatever is wrong with it.
func TestFleetPlaceAndTellOfNone(t *testing.T) {
	checkNoWharf(t, "nothing", impl.FleetWorld{})
	for what, w := range brokenWharves() {
		checkNoWharf(t, what, w)
	}
}

// The full one, told word by word.
func TestFleetFullWharf(t *testing.T) {
	w := fullWharf()
	if got := shownIn(w); got != "db-1@a db-10@c db-3@a db-5@ db-9@b old-3@b web-long-1@a web-long-10@ web-long-28@c web-long-9@" {
		t.Error(got)
	}
	// b is to be drained and silent; c has no ssd, and one of web-long already, as a has.
	next := checkFleetPlace(t, "a full one", w, 31, "db-1@a:0/3/v1 db-5@a:1/2/v31 db-9@b:2/2/v8 db-10@c:99/4/v8 web-long-1@a:1/3/v5 web-long-28@c:0/3/v6")
	if got := toldIn(impl.FleetTell(next)); got != "a 5 db-1=db-0 db-5=db-1 web-long-1=; b 8 db-9=db-2; c 3 db-10=db-99 web-long-28=" {
		t.Error(got)
	}
}

func TestFleetPlaceAndTellAsRead(t *testing.T) {
	t.Parallel()
	r := rand.New(rand.NewSource(281))
	met := map[string]int{}
	note := func(what string) { met[what]++ }
	for range 4000 {
		w := randomWharf(r)
		checkPlaceAndTell(t, "a random one", w, note)
		if t.Failed() {
			return
		}
	}
	for _, what := range []string{"no fleet for the pilot: stand", "nothing to place", "at the end of versions", "placed 1", "placed 2", "placed 3", "a slot in a gap", "goes: nothing", "goes: code 0", "goes: code 3", "comes: nothing", "comes: code 0", "comes: code 2", "comes: code 3"} {
		if met[what] < 40 {
			t.Errorf("the fleets tell too little of %q: %v", what, met)
		}
	}
	if met["goes: code 2"] > 0 || met["goes: code 1"]+met["comes: code 1"] > 0 {
		t.Errorf("codes that can't be: %v", met)
	}
}

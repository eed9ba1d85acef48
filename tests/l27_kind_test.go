package tests

import (
	"fmt"
	"math"
	"math/rand"
	"slices"
	"strings"
	"testing"

	"loop.example/wharffleet/impl"
)

func TestFleetNumbers(t *testing.T) {
	if impl.FleetMaxName != 8 || impl.FleetMaxReports != 60 || impl.FleetMaxCalm != 20000 || impl.FleetPatience != 40 {
		t.Error(impl.FleetMaxName, impl.FleetMaxReports, impl.FleetMaxCalm, impl.FleetPatience)
	}
}

func checkCopyName(t *testing.T, service string, number int, want string) {
	t.Helper()
	if got := impl.FleetCopyName(service, number); got != want {
		t.Errorf("FleetCopyName(%.40q, %d) is %q, not %q", service, number, got, want)
	}
	if got := modelNameOfCopy(service, number); got != want {
		t.Errorf("%.40q, %d: the second reading says %q, not %q", service, number, got, want)
	}
}

func TestFleetCopyName(t *testing.T) {
	checkCopyName(t, "web", 7, "web-7")
	checkCopyName(t, "a", 10, "a-10")
	checkCopyName(t, "-", 1, "--1")
	checkCopyName(t, "0", 0, "0-0")
	checkCopyName(t, "a-1", 2, "a-1-2")
	checkCopyName(t, "eightlet", 999999, "eightlet-999999")
	checkCopyName(t, "", 1, "")
	for n, want := range map[int]string{
		0: "web-0", 1: "web-1", 9: "web-9", 10: "web-10", 999999: "web-999999", 1000000: "web-1000000",
		1000001: "", -1: "", math.MaxInt: "", math.MinInt: "",
	} {
		checkCopyName(t, "web", n, want)
		checkCopyName(t, "Web", n, "")
		checkCopyName(t, "", n, "")
	}
	for size := range 30 {
		for _, letter := range []string{"a", "z", "0", "9", "-"} {
			service, want := strings.Repeat(letter, size), ""
			if size >= 1 && size <= 8 {
				want = service + "-3"
			}
			checkCopyName(t, service, 3, want)
		}
	}
	for c := range 256 {
		for _, pattern := range []string{"%s", "a%s", "%sa", "a%sa", "aaaaaaa%s"} {
			service, want := strings.Replace(pattern, "%s", string([]byte{byte(c)}), 1), ""
			if c >= 'a' && c <= 'z' || c >= '0' && c <= '9' || c == '-' {
				want = service + "-12"
			}
			checkCopyName(t, service, 12, want)
		}
	}
	names, others := stewNames()
	for _, s := range append(names, others...) {
		checkCopyName(t, s, 4, modelNameOfCopy(s, 4))
	}
}

// wharfChange is a change of fullWharf behind which it does not meet these conditions, or is valid if they are "".
type wharfChange struct {
	what, breaks string
	change       func(w *impl.FleetWorld)
}

func checkWharfChanges(t *testing.T, of func() impl.FleetWorld, changes []wharfChange) {
	t.Helper()
	for _, c := range changes {
		w := of()
		c.change(&w)
		checkWharf(t, c.what, w, c.breaks)
	}
}

// threeBerths is valid, and has nothing but berths.
func threeBerths() impl.FleetWorld { return emptyWharf("a", "b", "c") }

func TestFleetValidOrdinary(t *testing.T) {
	checkWharf(t, "nothing", impl.FleetWorld{}, "mates")
	checkWharf(t, "a full one", fullWharf(), "")
	checkWharf(t, "berths alone", threeBerths(), "")
	checkWharf(t, "one berth", emptyWharf("a"), "")
	checkWharf(t, "as many as may be", emptyWharf("a", "b", "c", "d"), "")
	checkWharf(t, "one more", emptyWharf("a", "b", "c", "d", "e"), "mates")
	checkWharfChanges(t, fullWharf, []wharfChange{
		{"no reports", "", func(w *impl.FleetWorld) { w.Reports = nil }},
		{"no places", "", func(w *impl.FleetWorld) { w.Mates.Land.Places = nil }},
		{"a new mates' world", "heard's time", func(w *impl.FleetWorld) { w.Mates = impl.MateNewWorld([]string{"a", "b", "c"}) }},
		{"a new mates' world, and nothing heard", "", func(w *impl.FleetWorld) {
			w.Mates = impl.MateNewWorld([]string{"a", "b", "c"})
			for i := range w.Heard {
				w.Heard[i].Time = 0
			}
		}},
		{"no copies", "slots", func(w *impl.FleetWorld) { w.Stew.Copies = nil }},
		{"no copies and no slots", "", func(w *impl.FleetWorld) { w.Stew.Copies, w.Slots = nil, nil }},
		{"no slots", "slots", func(w *impl.FleetWorld) { w.Slots = nil }},
		{"no services", "kinds, slots, stew", func(w *impl.FleetWorld) { w.Stew.Services, w.Slots = nil, nil }},
		{"no kinds", "kinds", func(w *impl.FleetWorld) { w.Kinds = nil }},
		{"nothing heard", "names of heard", func(w *impl.FleetWorld) { w.Heard = nil }},
		{"no berths", "names of heard, names of mates, names of stew, place", func(w *impl.FleetWorld) { w.Berths = nil }},
		// What neither the pilot nor the berths can bear is valid all the same.
		{"more than fits", "", func(w *impl.FleetWorld) { w.Berths[0].Room, w.Berths[1].Hold = 0, 0 }},
		{"all but one silent", "", func(w *impl.FleetWorld) { w.Mates.Land.Time = 2000000 }},
		{"all to be drained", "", func(w *impl.FleetWorld) { w.Stew.Berths[0].Drain, w.Stew.Berths[2].Drain = true, true }},
		{"empty lists", "", func(w *impl.FleetWorld) {
			*w = threeBerths()
			w.Kinds, w.Slots, w.Reports = []impl.FleetKind{}, []impl.FleetSlot{}, []impl.FleetReport{}
		}},
	})
	// A list without any berth is no such fleet: there are no mates without one.
	checkWharf(t, "Stew alone", impl.FleetWorld{Stew: impl.StewBook{Now: 3}}, "mates")
}

func TestFleetValidParts(t *testing.T) {
	for what, b := range brokenBooks() {
		w := threeBerths()
		w.Stew = b
		if impl.FleetValid(w) {
			t.Errorf("%s: it is valid", what)
		}
	}
	checkWharfChanges(t, fullWharf, []wharfChange{
		{"Now below 0", "stew", func(w *impl.FleetWorld) { w.Stew.Now = -1 }},
		{"Now above its greatest", "stew", func(w *impl.FleetWorld) { w.Stew.Now = 1000001 }},
		{"a copy's version above Now", "stew", func(w *impl.FleetWorld) { w.Stew.Copies[2].Version = 31 }},
		{"a service without spare", "stew", func(w *impl.FleetWorld) { w.Stew.Services[0].Over = 0 }},
		{"a waiting copy's image", "stew", func(w *impl.FleetWorld) { w.Stew.Copies[2].Image = 0 }},
		{"an odd time", "mates", func(w *impl.FleetWorld) { w.Mates.Land.Time = 101 }},
		{"a mate's clock", "mates", func(w *impl.FleetWorld) { w.Mates.Mates[2].Clock = 1000001 }},
		{"a place's Seen", "mates", func(w *impl.FleetWorld) { w.Mates.Land.Places[1].Seen = 0 }},
		{"a hold in two places", "mates", func(w *impl.FleetWorld) {
			w.Mates.Land.Places[1].Wants = []impl.MateWant{{Copy: "x", Version: 1, Hold: "v-db-0"}}
		}},
		{"as much in flight as may be", "", func(w *impl.FleetWorld) { w.Mates.Flight = filled(300) }},
		{"one more in flight", "mates", func(w *impl.FleetWorld) { w.Mates.Flight = filled(301) }},
		{"all mates down", "", func(w *impl.FleetWorld) {
			for i, m := range w.Mates.Mates {
				w.Mates.Mates[i] = impl.MateFall(m, true)
			}
		}},
	})
}

func TestFleetValidBerths(t *testing.T) {
	for at := range 3 {
		berth := func(what, breaks string, change func(b *impl.PilotBerth)) {
			t.Helper()
			for _, of := range []func() impl.FleetWorld{fullWharf, threeBerths} {
				w := of()
				change(&w.Berths[at])
				checkWharf(t, fmt.Sprint(what, " of ", at), w, breaks)
			}
		}
		berth("closed", "closed", func(b *impl.PilotBerth) { b.Closed = true })
		for _, n := range around(0, 1000) {
			breaks := map[bool]string{false: "berths"}[n >= 0 && n <= 1000]
			berth(fmt.Sprint("room ", n), breaks, func(b *impl.PilotBerth) { b.Room = n })
			berth(fmt.Sprint("hold ", n), breaks, func(b *impl.PilotBerth) { b.Hold = n })
		}
		for _, zone := range []string{"", "East", "a b", "a=b", strings.Repeat("z", 21)} {
			berth(fmt.Sprintf("zone %q", zone), "berths", func(b *impl.PilotBerth) { b.Zone = zone })
		}
		berth("a zone of 20", "", func(b *impl.PilotBerth) { b.Zone = strings.Repeat("_", 20) })
		for _, marks := range [][]string{{""}, {"a="}, {"=a"}, {"b", "a"}, {"a", "a"}, {"a", "a=b"}, {"a=b", "a=c"}, {"A"}, strings.Split("a b c d e f g h i j k", " ")} {
			berth(fmt.Sprintf("marks %q", marks), "berths", func(b *impl.PilotBerth) { b.Marks = marks })
		}
		berth("ten marks", "", func(b *impl.PilotBerth) { b.Marks = strings.Split("a b c d e f g h i j", " ") })
		berth("no marks", "", func(b *impl.PilotBerth) { b.Marks = []string{} })
	}
	// A berth's name is one for the pilot, the mates and the stewards alike.
	for name, breaks := range map[string]string{
		"a-1": "", "-": "", "0": "", strings.Repeat("z", 20): "",
		"x_y": "stew", "A": "berths, stew", "a.b": "berths, stew", "": "berths, mates, stew", "a b": "berths, mates, stew", strings.Repeat("z", 21): "berths, mates, stew",
	} {
		checkWharf(t, fmt.Sprintf("a berth %q", name), emptyWharf(name), breaks)
	}
}

// The names of berths are the same everywhere, in one order.
func TestFleetValidNames(t *testing.T) {
	type list = []string
	lists := map[string]list{
		"one more":             {"a", "b", "c", "d"},
		"one more at first":    {"0", "a", "b", "c"},
		"one less":             {"a", "b"},
		"the first left out":   {"b", "c"},
		"another one":          {"a", "b", "d"},
		"another one at first": {"aa", "b", "c"},
		"one in place of two":  {"a", "ab", "c"},
		"in another order":     {"b", "a", "c"},
		"the last two changed": {"a", "c", "b"},
		"one twice":            {"a", "b", "b"},
		"none":                 {},
	}
	for what, names := range lists {
		other := emptyWharf(names...)
		sorted := slices.Equal(names, modelSet(names))
		also := func(breaks, broken string) string {
			if sorted {
				return breaks
			}
			return strings.Join(modelSet([]string{breaks, broken}), ", ")
		}
		w := threeBerths()
		w.Heard = other.Heard
		checkWharf(t, "Heard: "+what, w, "names of heard")
		w = threeBerths()
		w.Stew.Berths = other.Stew.Berths
		checkWharf(t, "Stew's Berths: "+what, w, also("names of stew", "stew"))
		w = threeBerths()
		w.Mates.Mates = other.Mates.Mates
		if what == "none" {
			checkWharf(t, "Mates: "+what, w, "mates, names of mates")
		} else {
			checkWharf(t, "Mates: "+what, w, also("names of mates", "mates"))
		}
		w = threeBerths()
		w.Berths = other.Berths
		breaks := "names of heard, names of mates, names of stew"
		if !sorted {
			breaks = "berths, " + breaks
		}
		checkWharf(t, "Berths: "+what, w, breaks)
	}
	// All in one order that is none.
	checkWharf(t, "all in another order", emptyWharf("b", "a"), "berths, mates, stew")
	checkWharf(t, "all twice", emptyWharf("a", "a"), "berths, mates, stew")
}

func TestFleetValidPlaces(t *testing.T) {
	place := func(berths ...string) func(w *impl.FleetWorld) {
		return func(w *impl.FleetWorld) {
			for _, b := range berths {
				w.Mates.Land.Places = append(w.Mates.Land.Places, impl.MatePlace{Berth: b, Seen: 1})
			}
		}
	}
	checkWharfChanges(t, threeBerths, []wharfChange{
		{"of one berth", "", place("b")},
		{"of all berths", "", place("a", "b", "c")},
		{"of none of these", "place", place("d")},
		{"of none of these behind all", "place", place("a", "b", "c", "d")},
		{"of none of these ahead of one", "place", place("A", "a")},
		{"of a berth that only begins so", "place", place("aa")},
	})
}

func TestFleetValidHeard(t *testing.T) {
	for at := range 3 {
		for _, time := range []int{0, 2, 40, 100, 1999998, 2000000} {
			for _, n := range append(around(0, time), 1, 99, 100, 101, 2000001) {
				w := fullWharf()
				w.Mates.Land.Time, w.Mates.Land.Grants = time, nil
				for i := range w.Heard {
					w.Heard[i].Time = time
				}
				w.Heard[at].Time = n
				checkWharf(t, fmt.Sprintf("heard %d of %d at %d", at, n, time), w, map[bool]string{false: "heard's time"}[n >= 0 && n <= time])
			}
		}
	}
}

func TestFleetValidKinds(t *testing.T) {
	checkWharfChanges(t, fullWharf, []wharfChange{
		{"one less", "kinds", func(w *impl.FleetWorld) { w.Kinds = w.Kinds[:3] }},
		{"the first left out", "kinds", func(w *impl.FleetWorld) { w.Kinds = w.Kinds[1:] }},
		{"one more", "kinds", func(w *impl.FleetWorld) { w.Kinds = append(w.Kinds, impl.FleetKind{Service: "z"}) }},
		{"one more at first", "kinds", func(w *impl.FleetWorld) { w.Kinds = slices.Insert(w.Kinds, 0, impl.FleetKind{Service: "a"}) }},
		{"one twice", "kinds", func(w *impl.FleetWorld) { w.Kinds = slices.Insert(w.Kinds, 1, w.Kinds[1]) }},
		{"another order", "kinds", func(w *impl.FleetWorld) { w.Kinds[1], w.Kinds[2] = w.Kinds[2], w.Kinds[1] }},
		{"of another service", "kinds", func(w *impl.FleetWorld) { w.Kinds[0].Service = "cachf" }},
		{"of no service", "kind's name, kinds", func(w *impl.FleetWorld) { w.Kinds[3].Service = "" }},
		{"without its service", "kinds", func(w *impl.FleetWorld) { w.Stew.Services = w.Stew.Services[1:] }},
	})
	for at := range 4 {
		of := func(k func(k *impl.FleetKind) *int) func(w *impl.FleetWorld) *int {
			return func(w *impl.FleetWorld) *int { return k(&w.Kinds[at]) }
		}
		for _, n := range []struct {
			what string
			most int
			of   func(w *impl.FleetWorld) *int
		}{
			{"kind's rank", 100, of(func(k *impl.FleetKind) *int { return &k.Rank })},
			{"kind's room", 1000, of(func(k *impl.FleetKind) *int { return &k.Room })},
			{"kind's hold", 1000, of(func(k *impl.FleetKind) *int { return &k.Hold })},
			{"kind's apart", 2, of(func(k *impl.FleetKind) *int { return &k.Apart })},
			{"kind's pull", 100, of(func(k *impl.FleetKind) *int { return &k.Pull })},
			{"kind's start", 100, of(func(k *impl.FleetKind) *int { return &k.Start })},
			{"kind's grace", 100, of(func(k *impl.FleetKind) *int { return &k.Grace })},
		} {
			for _, value := range around(0, n.most) {
				w := fullWharf()
				*n.of(&w) = value
				checkWharf(t, fmt.Sprint(n.what, " of ", at, " is ", value), w, map[bool]string{false: n.what}[value >= 0 && value <= n.most])
			}
		}
		for text, breaks := range map[string]string{
			"": "", " ": "", "a": "", "a & !(b=c | d)": "", strings.Repeat(" ", 200): "", strings.Repeat("!", 20) + "a": "",
			"A": "kind's select", "a &": "kind's select", "((": "kind's select", "a b": "kind's select", strings.Repeat(" ", 201): "kind's select", strings.Repeat("!", 21) + "a": "kind's select", "\xff": "kind's select",
		} {
			w := fullWharf()
			w.Kinds[at].Select = text
			checkWharf(t, fmt.Sprintf("select %.30q of %d", text, at), w, breaks)
		}
		w := fullWharf()
		w.Kinds[at].Volume = !w.Kinds[at].Volume
		checkWharf(t, fmt.Sprint("volume of ", at), w, "")
	}
}

// A service may be of the stewards, and have a name that is too long for its copies to have one.
func TestFleetValidLongNames(t *testing.T) {
	for name, breaks := range map[string]string{
		"w": "", "eightlet": "", "--------": "", "12345678": "",
		"ninelette": "kind's name", strings.Repeat("a", 20): "kind's name", "a_b": "kind's name, stew", strings.Repeat("a", 21): "kind's name, stew",
	} {
		w := withService(emptyWharf("a"), impl.FleetKind{Service: name}, "")
		checkWharf(t, fmt.Sprintf("a service %q", name), w, breaks)
		w = withService(emptyWharf("a"), impl.FleetKind{Service: name, Volume: true}, "1@a 999999@a:99")
		w.Stew.Services[0].Next = 1000000
		checkWharf(t, fmt.Sprintf("a service %q with copies", name), w, breaks)
	}
}

func TestFleetValidSlots(t *testing.T) {
	web := func(copies string) func() impl.FleetWorld {
		return func() impl.FleetWorld { return withService(emptyWharf("a", "b"), webKind(), copies) }
	}
	slots := func(list ...impl.FleetSlot) func(w *impl.FleetWorld) {
		return func(w *impl.FleetWorld) { w.Slots = list }
	}
	one, two, ten := slotOf("web", 1, 1), slotOf("web", 2, 2), slotOf("web", 10, 10)
	checkWharfChanges(t, web("1@a 2@b 3 4e 5e@a 10@a"), []wharfChange{
		{"as they are", "", slots(one, two, ten)},
		{"none", "slots", slots()},
		{"one less", "slots", slots(one, two)},
		{"the first left out", "slots", slots(two, ten)},
		{"one more, of no copy", "slots", slots(one, two, ten, slotOf("web", 11, 0))},
		{"one more, of no service", "slots", slots(one, two, ten, slotOf("x", 1, 0))},
		{"one of a copy that waits", "slots", slots(one, two, slotOf("web", 3, 0), ten)},
		{"one of a copy that is Ending without a berth", "slots", slots(one, two, slotOf("web", 4, 0), ten)},
		{"one of a copy that is Ending on a berth", "slots", slots(one, two, slotOf("web", 5, 0), ten)},
		{"one instead of another", "slots", slots(one, slotOf("web", 5, 2), ten)},
		{"another order", "slots", slots(two, one, ten)},
		{"in the order of names", "slots", slots(one, ten, two)},
		{"one twice", "slot twice, slots", slots(one, one, two, ten)},
		{"one twice, with another slot", "slots", slots(one, slotOf("web", 1, 5), two, ten)},
		{"of another service", "slots", slots(one, slotOf("wea", 2, 2), ten)},
		{"two the same", "slot twice", slots(one, slotOf("web", 2, 1), ten)},
		{"the first and the last the same", "slot twice", slots(one, two, slotOf("web", 10, 1))},
		{"descending", "", slots(slotOf("web", 1, 99), slotOf("web", 2, 50), slotOf("web", 10, 0))},
	})
	for at := range 3 {
		for _, n := range append(around(0, 99), 7) {
			w := web("1@a 2@b 10@a")()
			w.Slots[0].Slot, w.Slots[1].Slot, w.Slots[2].Slot = 30, 31, 32
			w.Slots[at].Slot = n
			checkWharf(t, fmt.Sprintf("slot %d of %d", n, at), w, map[bool]string{false: "slot"}[n >= 0 && n <= 99])
		}
	}
	// Services do not share volumes: each has its own of every slot.
	both := func() impl.FleetWorld {
		return withService(web("1@a:0 2@b:1")(), impl.FleetKind{Service: "xeb"}, "1@b:0 2@a:1")
	}
	checkWharf(t, "two services with the same", both(), "")
	checkWharfChanges(t, both, []wharfChange{
		{"services in another order", "slots", func(w *impl.FleetWorld) { w.Slots = slices.Concat(w.Slots[2:], w.Slots[:2]) }},
		{"two of the second the same", "slot twice", func(w *impl.FleetWorld) { w.Slots[3].Slot = 0 }},
		{"by numbers", "slots", func(w *impl.FleetWorld) { w.Slots[1], w.Slots[2] = w.Slots[2], w.Slots[1] }},
	})
	// As many as there are slots, and one more: then two have one.
	full := func(n int) impl.FleetWorld {
		w := withService(emptyWharf("a", "b"), webKind(), strings.Join(numberedWords(n, "@a"), " "))
		for i := range w.Slots {
			w.Slots[i].Slot = i
		}
		return w
	}
	checkWharf(t, "100 of them", full(100), "")
	checkWharf(t, "101 of them", full(101), "slot")
	w := full(101)
	w.Slots[100].Slot = 50
	checkWharf(t, "101 of them, two the same", w, "slot twice")
}

// numberedWords are the numbers from 1 on, each with something behind it.
func numberedWords(n int, behind string) []string {
	var words []string
	for i := range n {
		words = append(words, fmt.Sprint(i+1, behind))
	}
	return words
}

func TestFleetValidReports(t *testing.T) {
	for _, n := range []int{0, 1, 59, 60, 61, 120} {
		w := fullWharf()
		w.Reports = slices.Repeat([]impl.FleetReport{{Berth: "a"}}, n)
		checkWharf(t, fmt.Sprint(n, " reports"), w, map[bool]string{false: "reports"}[n <= 60])
	}
	// One report is changed; it stands alone, ahead of others, or behind as many as may be.
	report := func(what, breaks string, change func(r *impl.FleetReport)) {
		t.Helper()
		for _, ahead := range []int{0, 1, 59} {
			r := impl.FleetReport{Berth: "b", Seen: 4, Runs: []impl.FleetRan{ranOf("db-1", 7, 1), ranOf("db-2", 7, 2)}}
			change(&r)
			w := fullWharf()
			w.Reports = append(slices.Repeat([]impl.FleetReport{{Berth: "a"}}, ahead), r)
			if ahead == 1 {
				w.Reports = append(w.Reports, w.Reports[0])
			}
			checkWharf(t, fmt.Sprintf("%s behind %d", what, ahead), w, breaks)
		}
	}
	for name, breaks := range map[string]string{
		"a": "", "nowhere": "", "x_y": "", "-": "", strings.Repeat("z", 20): "",
		"": "report's berth", "A": "report's berth", "a b": "report's berth", "~": "report's berth", "a=b": "report's berth", strings.Repeat("z", 21): "report's berth",
	} {
		report(fmt.Sprintf("berth %q", name), breaks, func(r *impl.FleetReport) { r.Berth = name })
	}
	for _, n := range around(0, 1000000) {
		report(fmt.Sprint("seen ", n), map[bool]string{false: "report's seen"}[n >= 0 && n <= 1000000], func(r *impl.FleetReport) { r.Seen = n })
	}
	for at := range 2 {
		for _, n := range around(1, 1000000) {
			report(fmt.Sprint("version ", n), map[bool]string{false: "run's version"}[n >= 1 && n <= 1000000], func(r *impl.FleetReport) { r.Runs[at].Version = n })
		}
		for _, n := range append(around(1, 6), 3, 4) {
			report(fmt.Sprint("state ", n), map[bool]string{false: "run's state"}[n >= 1 && n <= 6], func(r *impl.FleetReport) { r.Runs[at].State = n })
		}
	}
	for _, name := range notNames() {
		report(fmt.Sprintf("copy %.30q", name), "run's copy", func(r *impl.FleetReport) { r.Runs = []impl.FleetRan{ranOf(name, 7, 1)} })
	}
	for _, name := range append(theirNames(), "*", "A", "of-no-service-9") {
		report(fmt.Sprintf("copy %q", name), "", func(r *impl.FleetReport) { r.Runs = []impl.FleetRan{ranOf(name, 7, 1)} })
	}
	for _, n := range []int{0, 1, 19, 20, 21, 500} {
		runs := numbered(n, func(name string) impl.FleetRan { return impl.FleetRan{Copy: name, Version: 1, State: 4} })
		report(fmt.Sprint(n, " runs"), map[bool]string{false: "report's runs"}[n <= 20], func(r *impl.FleetReport) { r.Runs = runs })
	}
	for names, breaks := range map[string]string{
		"db-1 db-10 db-2": "", "! A a aa ~": "",
		"db-1 db-1": "runs' order", "db-2 db-1": "runs' order", "db-2 db-10": "runs' order", "aa a": "runs' order", "a b d c": "runs' order", "a b a": "runs' order",
	} {
		report("runs "+names, breaks, func(r *impl.FleetReport) {
			r.Runs = nil
			for _, name := range strings.Fields(names) {
				r.Runs = append(r.Runs, impl.FleetRan{Copy: name, Version: 2, State: 6})
			}
		})
	}
}

func TestFleetValidAsRead(t *testing.T) {
	t.Parallel()
	r := rand.New(rand.NewSource(271))
	met := map[string]int{}
	for i := range 6000 {
		w := randomWharf(r)
		for range pickOf(r, 0, 1, 1, 2) * (i % 4) {
			breakWharf(r, &w)
		}
		faults := modelWharfFaults(w)
		if impl.FleetValid(w) != (len(faults) == 0) {
			t.Fatalf("FleetValid is not as read, %q: %+v", faults, w)
		}
		if len(faults) > 0 {
			checkNoWharf(t, strings.Join(faults, ", "), w)
		}
		for _, f := range append(faults, map[bool]string{true: "valid"}[len(faults) == 0]) {
			met[f]++
		}
	}
	for _, f := range append(allWharfFaults(), "valid") {
		if few := met[f] < 20; few {
			t.Errorf("%q was met %d times: the fleets tell too little", f, met[f])
		}
	}
}

func TestFleetValidInGoodTime(t *testing.T) {
	inGoodTime(t, "lists that are far too long", func() {
		for what, change := range map[string]func(w *impl.FleetWorld){
			"berths":  func(w *impl.FleetWorld) { w.Berths = slices.Repeat(w.Berths, 300000) },
			"mates":   func(w *impl.FleetWorld) { w.Mates.Mates = slices.Repeat(w.Mates.Mates, 300000) },
			"heard":   func(w *impl.FleetWorld) { w.Heard = slices.Repeat(w.Heard, 300000) },
			"kinds":   func(w *impl.FleetWorld) { w.Kinds = slices.Repeat(w.Kinds, 300000) },
			"slots":   func(w *impl.FleetWorld) { w.Slots = slices.Repeat(w.Slots, 300000) },
			"reports": func(w *impl.FleetWorld) { w.Reports = slices.Repeat(w.Reports, 300000) },
			"runs":    func(w *impl.FleetWorld) { w.Reports[0].Runs = slices.Repeat(w.Reports[0].Runs, 300000) },
			"copies":  func(w *impl.FleetWorld) { w.Stew.Copies = slices.Repeat(w.Stew.Copies, 300000) },
			"places":  func(w *impl.FleetWorld) { w.Mates.Land.Places = slices.Repeat(w.Mates.Land.Places, 300000) },
			"marks":   func(w *impl.FleetWorld) { w.Berths[0].Marks = slices.Repeat(w.Berths[0].Marks, 300000) },
			"a select": func(w *impl.FleetWorld) {
				w.Kinds[0].Select = strings.Repeat("(", 3000000)
			},
		} {
			w := fullWharf()
			change(&w)
			checkNoWharf(t, what+" far too long", w)
		}
	})
}

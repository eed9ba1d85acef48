package tests

import (
	"cmp"
	"fmt"
	"math"
	"math/rand"
	"reflect"
	"regexp"
	"slices"
	"strconv"
	"strings"
	"testing"

	"loop.example/wharffleet/impl"
)

// A second reading of chapter 27, made another way than the program: names by patterns, lists by the texts of their keys, all that is not so gathered.

var modelServiceName = regexp.MustCompile(`\A[-0-9a-z]{1,8}\z`)

func modelNameOfCopy(service string, number int) string {
	if !modelServiceName.MatchString(service) || number < 0 || number > 1000000 {
		return ""
	}
	return fmt.Sprintf("%s-%d", service, number)
}

// modelWharfFaults are the conditions of a valid fleet that one does not meet, each once and in order.
func modelWharfFaults(w impl.FleetWorld) []string {
	var faults []string
	fault := func(name string, is bool) {
		if is {
			faults = append(faults, name)
		}
	}
	within := func(name string, n, least, most int) { fault(name, n < least || n > most) }
	fault("stew", len(modelBookFaults(w.Stew)) > 0)
	fault("mates", len(modelWorldFaults(w.Mates)) > 0)
	var berths, mates, stew, heard []string
	for _, b := range w.Berths {
		berths = append(berths, b.Name)
		fault("closed", b.Closed)
	}
	fault("berths", modelFleetFault(impl.PilotFleet{Berths: w.Berths}) != "")
	for _, m := range w.Mates.Mates {
		mates = append(mates, m.Name)
	}
	for _, b := range w.Stew.Berths {
		stew = append(stew, b.Name)
	}
	for _, h := range w.Heard {
		heard = append(heard, h.Berth)
		within("heard's time", h.Time, 0, w.Mates.Land.Time)
	}
	fault("names of mates", !slices.Equal(mates, berths))
	fault("names of stew", !slices.Equal(stew, berths))
	fault("names of heard", !slices.Equal(heard, berths))
	for _, p := range w.Mates.Land.Places {
		fault("place", !slices.Contains(berths, p.Berth))
	}
	modelKindFaults(w, fault, within)
	modelSlotFaults(w, fault, within)
	within("reports", len(w.Reports), 0, 60)
	for _, r := range w.Reports {
		modelReportFaults(r, fault, within)
	}
	return modelSet(faults)
}

func modelKindFaults(w impl.FleetWorld, fault func(string, bool), within func(string, int, int, int)) {
	var services, kinds []string
	for _, s := range w.Stew.Services {
		services = append(services, s.Name)
	}
	for _, k := range w.Kinds {
		kinds = append(kinds, k.Service)
		fault("kind's name", modelNameOfCopy(k.Service, 7) == "")
		within("kind's rank", k.Rank, 0, 100)
		within("kind's room", k.Room, 0, 1000)
		within("kind's hold", k.Hold, 0, 1000)
		_, code := modelParse(k.Select)
		fault("kind's select", code != 0)
		within("kind's apart", k.Apart, 0, 2)
		within("kind's pull", k.Pull, 0, 100)
		within("kind's start", k.Start, 0, 100)
		within("kind's grace", k.Grace, 0, 100)
	}
	fault("kinds", !slices.Equal(kinds, services))
}

func modelSlotFaults(w impl.FleetWorld, fault func(string, bool), within func(string, int, int, int)) {
	var placed, slots []string
	for _, c := range w.Stew.Copies {
		if c.Berth != "" && !c.Ending {
			placed = append(placed, modelCopyKey(c))
		}
	}
	taken := map[string]int{}
	for _, s := range w.Slots {
		slots = append(slots, modelCopyKey(impl.StewCopy{Service: s.Service, Number: s.Number}))
		within("slot", s.Slot, 0, 99)
		volume := fmt.Sprintf("%q %d", s.Service, s.Slot)
		taken[volume]++
		fault("slot twice", taken[volume] > 1)
	}
	fault("slots", !slices.Equal(slots, placed))
}

func modelReportFaults(r impl.FleetReport, fault func(string, bool), within func(string, int, int, int)) {
	fault("report's berth", !modelIsName(r.Berth))
	within("report's seen", r.Seen, 0, 1000000)
	within("report's runs", len(r.Runs), 0, 20)
	var copies []string
	for _, run := range r.Runs {
		copies = append(copies, run.Copy)
		fault("run's copy", !modelMateName.MatchString(run.Copy))
		within("run's version", run.Version, 1, 1000000)
		within("run's state", run.State, 1, 6)
	}
	fault("runs' order", !slices.Equal(copies, modelSet(copies)))
}

// allWharfFaults are all the conditions of which the second reading knows.
func allWharfFaults() []string {
	return modelSet([]string{
		"stew", "mates", "closed", "berths", "names of mates", "names of stew", "names of heard", "heard's time", "place",
		"kinds", "kind's name", "kind's rank", "kind's room", "kind's hold", "kind's select", "kind's apart", "kind's pull", "kind's start", "kind's grace",
		"slots", "slot", "slot twice", "reports", "report's berth", "report's seen", "report's runs", "runs' order", "run's copy", "run's version", "run's state",
	})
}

// checkWharf holds FleetValid against the second reading, and then all that chapters 28 and 29 say of this fleet. Breaks are the conditions that it does not meet, with a comma between.
func checkWharf(t *testing.T, what string, w impl.FleetWorld, breaks string) {
	t.Helper()
	if got := impl.FleetValid(w); got != (breaks == "") {
		t.Errorf("%s: FleetValid is %v: %+v", what, got, w)
	}
	if got := strings.Join(modelWharfFaults(w), ", "); got != breaks {
		t.Errorf("%s: the second reading finds %q, not %q: %+v", what, got, breaks, w)
	}
	checkPlaceAndTell(t, what, w, noNote)
	checkHearAndSweep(t, what, w)
}

// checkNoWharf does without the second reading, and without telling what may be very long.
func checkNoWharf(t *testing.T, what string, w impl.FleetWorld) {
	t.Helper()
	if impl.FleetValid(w) {
		t.Errorf("%s: it is valid", what)
	}
	if !sameFleet(impl.FleetPilot(w), impl.PilotFleet{}) || !sameWharf(impl.FleetPlace(w), impl.FleetWorld{}) || !sameWharf(impl.FleetTell(w), impl.FleetWorld{}) {
		t.Errorf("%s: there is something", what)
	}
	if !sameWharf(impl.FleetHear(w, impl.FleetReport{Berth: "a"}), impl.FleetWorld{}) || !sameWharf(impl.FleetHear(w, impl.FleetReport{}), impl.FleetWorld{}) || !sameWharf(impl.FleetSweep(w), impl.FleetWorld{}) {
		t.Errorf("%s: it hears or gives up something", what)
	}
	for _, berth := range []string{"", "a", "b", "c", "z"} {
		if got := impl.FleetWants(w, berth); len(got) > 0 {
			t.Errorf("%s: %q is to run %+v", what, berth, got)
		}
	}
}

// plainWharf is a fleet in memory of its own, in which no list is empty but not nil.
func plainWharf(w impl.FleetWorld) impl.FleetWorld {
	w.Stew, w.Mates, w.Berths = plainBook(w.Stew), plainWorld(w.Mates), plainBerths(w.Berths)
	w.Kinds, w.Slots, w.Heard, w.Reports = nilIfEmpty(w.Kinds), nilIfEmpty(w.Slots), nilIfEmpty(w.Heard), nilIfEmpty(w.Reports)
	for i := range w.Reports {
		w.Reports[i].Runs = nilIfEmpty(w.Reports[i].Runs)
	}
	return w
}

func plainBerths(list []impl.PilotBerth) []impl.PilotBerth {
	list = nilIfEmpty(list)
	for i := range list {
		list[i].Marks = nilIfEmpty(list[i].Marks)
	}
	return list
}

func sameWharf(a, b impl.FleetWorld) bool { return reflect.DeepEqual(plainWharf(a), plainWharf(b)) }

// emptyWharf has berths alone, with room for all, and mates that have heard nothing.
func emptyWharf(names ...string) impl.FleetWorld {
	var w impl.FleetWorld
	for _, n := range names {
		w.Berths = append(w.Berths, impl.PilotBerth{Name: n, Zone: "z", Room: 1000, Hold: 1000})
		w.Mates.Mates = append(w.Mates.Mates, impl.Mate{Name: n, Up: true})
		w.Stew.Berths = append(w.Stew.Berths, impl.StewBerth{Name: n})
		w.Heard = append(w.Heard, impl.FleetHeard{Berth: n})
	}
	w.Stew.Now = 5
	return w
}

// withService adds a service, behind those that are there, with copies such as "1" that waits, "2@a" that is ready on a and has the slot 2, "2@a:7" with the slot 7, "3e" that is Ending and waits, "3e@a" that is Ending on a.
func withService(w impl.FleetWorld, kind impl.FleetKind, copies string) impl.FleetWorld {
	s := impl.StewService{Name: kind.Service, Version: 1, Image: 3, Want: 3, Down: 1, Over: 1, Next: 1}
	for _, word := range strings.Fields(copies) {
		word, slot, slotted := strings.Cut(word, ":")
		word, berth, stands := strings.Cut(word, "@")
		digits, ending := strings.CutSuffix(word, "e")
		number, err := strconv.Atoi(digits)
		if err != nil {
			panic(err)
		}
		c := impl.StewCopy{Service: s.Name, Number: number, Version: 1, Image: 3, State: impl.StewWaiting, Ending: ending, Berth: berth}
		if stands {
			c.State = impl.StewReady
		}
		w.Stew.Copies = append(w.Stew.Copies, c)
		s.Next = number + 1
		if !stands || ending {
			continue
		}
		has := impl.FleetSlot{Service: s.Name, Number: number, Slot: number}
		if slotted {
			has.Slot, _ = strconv.Atoi(slot)
		}
		w.Slots = append(w.Slots, has)
	}
	w.Stew.Services = append(w.Stew.Services, s)
	w.Kinds = append(w.Kinds, kind)
	return w
}

func slotOf(service string, number, slot int) impl.FleetSlot {
	return impl.FleetSlot{Service: service, Number: number, Slot: slot}
}

func ranOf(copy string, version, state int) impl.FleetRan {
	return impl.FleetRan{Copy: copy, Version: version, State: state}
}

// webKind takes up something of a berth, and has a volume.
func webKind() impl.FleetKind {
	return impl.FleetKind{Service: "web", Room: 10, Hold: 1, Volume: true, Pull: 1, Start: 2, Grace: 4}
}

// fullWharf is valid, and has some of all: a service without copies, one whose numbers have one and two digits, one that is gone, one with a name that is as long as may be; copies in each state, Ending and not; berths that are to be drained, and that are silent; places that want what they are to and what they are not; reports of this fleet's berths and of another's.
func fullWharf() impl.FleetWorld {
	w := impl.FleetWorld{
		Stew: impl.StewBook{
			Now: 30,
			Services: []impl.StewService{
				{Name: "cache", Version: 1, Image: 1, Over: 1, Next: 1},
				{Name: "db", Version: 20, Image: 7, Want: 3, Down: 1, Next: 12},
				{Name: "old", Version: 9, Gone: true, Image: 2, Want: 1, Down: 2, Over: 3, Next: 4},
				{Name: "web-long", Version: 11, Image: 4, Want: 4, Down: 2, Over: 1, Next: 30, Per: 4, Least: 1, Most: 5, Load: 11, Cool: 2},
			},
			Copies: []impl.StewCopy{
				{Service: "db", Number: 1, Version: 1, Image: 7, State: impl.StewReady, Berth: "a"},
				{Service: "db", Number: 3, Version: 30, Image: 7, State: impl.StewReady, Ending: true, Berth: "a"},
				{Service: "db", Number: 5, Version: 8, Image: 7, State: impl.StewWaiting},
				{Service: "db", Number: 9, Version: 8, Image: 6, State: impl.StewStarting, Berth: "b"},
				{Service: "db", Number: 10, Version: 8, Image: 7, State: impl.StewFailed, Berth: "c"},
				{Service: "old", Number: 2, Version: 3, Image: 1, State: impl.StewWaiting, Ending: true},
				{Service: "old", Number: 3, Version: 4, Image: 2, State: impl.StewFailed, Ending: true, Berth: "b"},
				{Service: "web-long", Number: 1, Version: 5, Image: 3, State: impl.StewReady, Berth: "a"},
				{Service: "web-long", Number: 9, Version: 6, Image: 4, State: impl.StewWaiting},
				{Service: "web-long", Number: 10, Version: 6, Image: 4, State: impl.StewWaiting},
				{Service: "web-long", Number: 28, Version: 6, Image: 4, State: impl.StewReady, Berth: "c"},
			},
			Berths: []impl.StewBerth{{Name: "a"}, {Name: "b", Drain: true}, {Name: "c"}},
		},
		Kinds: []impl.FleetKind{
			{Service: "cache", Rank: 100, Room: 1000, Hold: 1000, Select: "none", Apart: impl.PilotApartZone, Volume: true, Pull: 100, Start: 100, Grace: 100},
			{Service: "db", Rank: 5, Room: 3, Hold: 2, Select: "ssd", Volume: true, Pull: 1, Start: 2, Grace: 3},
			{Service: "old"},
			{Service: "web-long", Rank: 7, Room: 2, Hold: 1, Apart: impl.PilotApartBerth, Grace: 9},
		},
		Berths: []impl.PilotBerth{
			{Name: "a", Zone: "east", Marks: []string{"color=red", "ssd"}, Room: 20, Hold: 20},
			{Name: "b", Zone: "west", Marks: []string{"ssd"}, Room: 1000, Hold: 1000},
			{Name: "c", Zone: "west", Room: 30, Hold: 30},
		},
		Mates: fullWorld(),
		Slots: []impl.FleetSlot{slotOf("db", 1, 0), slotOf("db", 9, 2), slotOf("db", 10, 99), slotOf("web-long", 1, 1), slotOf("web-long", 28, 0)},
		Heard: []impl.FleetHeard{{Berth: "a", Time: 100}, {Berth: "b"}, {Berth: "c", Time: 60}},
		Reports: []impl.FleetReport{
			{Berth: "a", Seen: 3, Runs: []impl.FleetRan{ranOf("db-1", 7, impl.MateReady), ranOf("web-long-1", 3, impl.MatePulling)}},
			{Berth: "a"},
			{Berth: "of_another", Seen: 1000000, Runs: []impl.FleetRan{ranOf("~", 1000000, impl.MateStopping)}},
		},
	}
	w.Mates.Land.Places[0].Wants = []impl.MateWant{{Copy: "db-1", Version: 7, Hold: "v-db-0", Pull: 1, Start: 2, Grace: 3}, {Copy: "db-3", Version: 7, Hold: "v-db-1", Pull: 1, Start: 2, Grace: 3}}
	w.Mates.Land.Places[1].Seen = 7
	return w
}

// randomWharf is valid. What the pilot is shown of it mostly is, too; what the places want is near to what they are to.
func randomWharf(r *rand.Rand) impl.FleetWorld {
	w := emptyWharf(pickOf(r, []string{"a"}, []string{"a", "b"}, []string{"a", "b", "c"}, []string{"-", "0", "a", "a-"}, []string{"b1", "b2", "b3", "b4"})...)
	w.Stew.Now = pickOf(r, 1, 2, 7, 50, 60, 999998, 999999, 1000000)
	w.Mates.Land.Time = pickOf(r, 0, 2, 38, 40, 42, 44, 1000, 2000000)
	tight := r.Intn(3) > 0
	for i := range w.Berths {
		b := &w.Berths[i]
		b.Zone, b.Marks = pickOf(r, "east", "west"), pickOf(r, nil, []string{"ssd"}, []string{"color=red", "ssd=new"})
		if tight {
			b.Room, b.Hold = r.Intn(40), r.Intn(40)
		}
		w.Stew.Berths[i].Drain = r.Intn(6) == 0
		w.Heard[i].Time = max(0, w.Mates.Land.Time-pickOf(r, 0, 0, 1, 7, 39, 40, 41, 42, 1000))
		if r.Intn(3) == 0 {
			w.Mates.Mates[i] = randomMate(r)
			w.Mates.Mates[i].Name = b.Name
		}
	}
	overfull := r.Intn(8) == 0
	for _, name := range someOf(r, []string{"-", "0", "a", "a-", "a-1", "aa", "db", "web", "web-long"}, pickOf(r, 0, 1, 2, 3, 5, 8)) {
		w = withRandomCopies(r, w, name, overfull)
	}
	w.Mates.Land.Places = randomlyTold(r, w)
	for range pickOf(r, 0, 0, 1, 3, 60) {
		w.Reports = append(w.Reports, randomReport(r))
	}
	w.Mates.Flight = slices.Repeat([]string{"here a 0\n"}, pickOf(r, 0, 0, 1, 5))
	return w
}

// withRandomCopies adds a service and copies of it, where the pilot's fleet stays valid, unless it is to be overfull.
func withRandomCopies(r *rand.Rand, w impl.FleetWorld, name string, overfull bool) impl.FleetWorld {
	s := randomService(r, name, w.Stew.Now)
	s.Next = pickOf(r, 1, 5, 20, 120, 1000000)
	w.Stew.Services = append(w.Stew.Services, s)
	w.Kinds = append(w.Kinds, impl.FleetKind{
		Service: name, Rank: r.Intn(3), Room: r.Intn(5), Hold: r.Intn(5), Select: pickOf(r, "", "", "", "ssd", "zone=west | ssd"),
		Apart: pickOf(r, 0, 0, 0, 1, 2), Volume: r.Intn(3) > 0, Pull: r.Intn(3), Start: r.Intn(3), Grace: r.Intn(3),
	})
	slots, number := r.Perm(pickOf(r, 30, 100)), 0
	if r.Intn(2) == 0 {
		slices.Sort(slots)
	}
	for range pickOf(r, 0, 1, 3, 9, 25) {
		number += 1 + r.Intn(4)
		if number >= s.Next {
			break
		}
		c := randomStewCopy(r, w.Stew, s, number)
		waits := c
		waits.State, waits.Berth = impl.StewWaiting, ""
		w.Stew.Copies = append(w.Stew.Copies, c)
		if !overfull && modelFleetFault(modelShown(w)) == "stand" {
			w.Stew.Copies[len(w.Stew.Copies)-1], c = waits, waits
		}
		if !c.Ending && c.Berth != "" {
			w.Slots = append(w.Slots, impl.FleetSlot{Service: name, Number: number, Slot: slots[0]})
			slots = slots[1:]
		}
	}
	return w
}

// randomlyTold are places that want some of what they are to, some of it otherwise or elsewhere, and something else.
func randomlyTold(r *rand.Rand, w impl.FleetWorld) []impl.MatePlace {
	told, holds := map[string][]impl.MateWant{}, map[string]int{"": math.MinInt}
	add := func(berth string, want impl.MateWant) {
		holds[want.Hold]++
		twice := slices.ContainsFunc(told[berth], func(x impl.MateWant) bool { return x.Copy == want.Copy })
		if holds[want.Hold] <= 1 && !twice && len(told[berth]) < 10 {
			told[berth] = append(told[berth], want)
		}
	}
	changes := pickOf(r, 0, 1, 4)
	for _, b := range w.Berths {
		if r.Intn(6) == 0 {
			add(b.Name, impl.MateWant{Copy: "zz-9", Version: 1, Hold: pickOf(r, "", "v-web-0", "v-db-1", "other")})
		}
		for _, want := range modelWanted(w, b.Name) {
			to := b.Name
			if r.Intn(8) < changes {
				switch r.Intn(6) {
				case 0, 1:
					continue
				case 2:
					want.Version = pickOf(r, 1, 2, 9)
				case 3:
					want.Hold = pickOf(r, "", "v-web-0", "v-web-1", "v-db-0", "v-a-2")
				case 4:
					want.Grace++
				case 5:
					to = pickOf(r, w.Berths...).Name
				}
			}
			add(to, want)
		}
	}
	var places []impl.MatePlace
	for _, b := range w.Berths {
		if r.Intn(5) == 0 {
			continue
		}
		slices.SortFunc(told[b.Name], func(x, y impl.MateWant) int { return strings.Compare(x.Copy, y.Copy) })
		places = append(places, impl.MatePlace{Berth: b.Name, Seen: pickOf(r, 1, 7, 7, 7, 7, 999998, 999999, 1000000), Wants: told[b.Name]})
	}
	return places
}

func randomReport(r *rand.Rand) impl.FleetReport {
	report := impl.FleetReport{Berth: pickOf(r, "a", "b", "_", "nowhere"), Seen: pickOf(r, 0, 1, 1000000)}
	for _, copy := range someOf(r, []string{"!", "A", "a-1", "a-10", "a-9", "web-1", "~"}, r.Intn(4)) {
		report.Runs = append(report.Runs, impl.FleetRan{Copy: copy, Version: pickOf(r, 1, 7, 1000000), State: 1 + r.Intn(6)})
	}
	return report
}

// breakWharf changes one thing, behind which a fleet mostly is not valid.
func breakWharf(r *rand.Rand, w *impl.FleetWorld) {
	if len(w.Heard) == 0 || len(w.Stew.Berths) == 0 {
		return // it is broken already
	}
	number := pickOf(r, math.MinInt, -1, 0, 1, 2, 3, 6, 7, 99, 100, 101, 1000, 1001, 1000000, 1000001, math.MaxInt)
	text := pickOf(r, "", "a", "b", "z", "web", "A", "x_y", "a b", "((", "ninelette", strings.Repeat("z", 21))
	switch r.Intn(12) {
	case 0:
		breakBook(r, &w.Stew)
	case 1:
		*pickOf(r, &w.Mates.Land.Time, &w.Mates.Mates[0].Clock, &w.Heard[r.Intn(len(w.Heard))].Time) = number
	case 2:
		b := &w.Berths[r.Intn(len(w.Berths))]
		switch r.Intn(3) {
		case 0:
			b.Closed = true
		case 1:
			*pickOf(r, &b.Name, &b.Zone) = text
		default:
			*pickOf(r, &b.Room, &b.Hold) = number
		}
	case 3:
		*pickOf(r, &w.Mates.Mates[0].Name, &w.Stew.Berths[0].Name, &w.Heard[0].Berth) = text
	case 4:
		breakList(r, &w.Heard, impl.FleetHeard{Berth: text})
	case 5:
		breakList(r, &w.Mates.Land.Places, impl.MatePlace{Berth: text, Seen: 1})
	case 6:
		breakList(r, &w.Kinds, impl.FleetKind{Service: text})
	case 7:
		breakList(r, &w.Slots, impl.FleetSlot{Service: text, Number: number})
	case 8:
		if len(w.Kinds) > 0 {
			k := &w.Kinds[r.Intn(len(w.Kinds))]
			*pickOf(r, &k.Rank, &k.Room, &k.Hold, &k.Apart, &k.Pull, &k.Start, &k.Grace) = number
			if r.Intn(4) == 0 {
				*pickOf(r, &k.Service, &k.Select) = text
			}
		}
	case 9:
		if len(w.Slots) > 0 {
			s := &w.Slots[r.Intn(len(w.Slots))]
			*pickOf(r, &s.Number, &s.Slot, &s.Slot, &s.Slot) = number
		}
	default:
		w.Reports = append(w.Reports, brokenReport(r, number, text))
	}
}

func breakList[T any](r *rand.Rand, list *[]T, x T) {
	switch n := len(*list); {
	case n == 0 || r.Intn(3) == 0:
		*list = slices.Insert(slices.Clone(*list), r.Intn(n+1), x)
	case r.Intn(2) == 0:
		*list = slices.Delete(slices.Clone(*list), n-1, n)
	default:
		i, j := r.Intn(n), r.Intn(n)
		*list = slices.Clone(*list)
		(*list)[i], (*list)[j] = (*list)[j], (*list)[i]
	}
}

func brokenReport(r *rand.Rand, number int, text string) impl.FleetReport {
	report := impl.FleetReport{Berth: "a", Runs: []impl.FleetRan{ranOf("a-1", 1, 1), ranOf("a-2", 1, 2)}}
	run := &report.Runs[r.Intn(2)]
	switch r.Intn(4) {
	case 0:
		*pickOf(r, &report.Berth, &run.Copy) = text
	case 1:
		report.Runs = slices.Repeat(report.Runs, 11)
	default:
		*pickOf(r, &report.Seen, &run.Version, &run.State) = number
	}
	return report
}

// slotsInOrder are a fleet's slots, as they are to be told.
func slotsInOrder(list []impl.FleetSlot) []impl.FleetSlot {
	list = slices.Clone(list)
	slices.SortFunc(list, func(a, b impl.FleetSlot) int {
		return cmp.Or(strings.Compare(a.Service, b.Service), a.Number-b.Number)
	})
	return list
}

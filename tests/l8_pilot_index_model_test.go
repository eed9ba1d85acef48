package tests

import (
	"fmt"
	"math/rand"
	"reflect"
	"slices"
	"strings"

	"loop.example/wharffleet/impl"
)

// A second reading of chapter 8, made another way than the program: every number is counted for itself by a walk over the copies, and lists are put together and sorted.

// modelCounts are of copies that stand.
func modelCounts(copies []impl.PilotCopy) []impl.PilotCount {
	var services []string
	for _, c := range copies {
		services = append(services, c.Service)
	}
	slices.Sort(services)
	var counts []impl.PilotCount
	for _, s := range slices.Compact(services) {
		least := func(apart int) int {
			return len(slices.DeleteFunc(slices.Clone(copies), func(c impl.PilotCopy) bool { return c.Service != s || c.Apart < apart }))
		}
		counts = append(counts, impl.PilotCount{Service: s, N: least(0), Apart: least(1), Zone: least(2)})
	}
	return counts
}

// modelIndex is of a valid fleet.
func modelIndex(f impl.PilotFleet) impl.PilotIndex {
	x := impl.PilotIndex{Pack: f.Pack}
	var zones []string
	for _, b := range f.Berths {
		room, hold := modelUsed(f, b.Name)
		on := modelOn(f, b.Name)
		x.Rows = append(x.Rows, impl.PilotRow{Berth: b, Room: b.Room - room, Hold: b.Hold - hold, Stand: len(on), Counts: modelCounts(on)})
		zones = append(zones, b.Zone)
	}
	slices.Sort(zones)
	var all []impl.PilotCopy
	for _, zone := range slices.Compact(zones) {
		in := modelInZone(f, zone)
		x.Zones = append(x.Zones, impl.PilotZone{Name: zone, Counts: modelCounts(in)})
		all = append(all, in...)
	}
	x.Total = modelCounts(all)
	return x
}

// without is a list, sorted by names, in which x is put for the one with its name, if it is put at all.
func without[T any](list []T, name string, nameOf func(T) string, put ...T) []T {
	list = slices.DeleteFunc(slices.Clone(list), func(x T) bool { return nameOf(x) == name })
	list = append(list, put...)
	slices.SortFunc(list, func(a, b T) int { return strings.Compare(nameOf(a), nameOf(b)) })
	return list
}

func nameOfBerth(b impl.PilotBerth) string { return b.Name }
func nameOfCopy(c impl.PilotCopy) string   { return c.Name }

func hasBerth(f impl.PilotFleet, name string) bool {
	return slices.ContainsFunc(f.Berths, func(b impl.PilotBerth) bool { return b.Name == name })
}

func modelHappen(f impl.PilotFleet, e impl.PilotEvent) (impl.PilotFleet, int) {
	if modelFleetFault(f) != "" {
		return impl.PilotFleet{}, 1
	}
	moved, isCopy := modelCopy(f, e.Name)
	isBerth := hasBerth(f, e.Name)
	f = cloneFleet(f)
	switch {
	case e.Kind < 1 || e.Kind > 5:
		return impl.PilotFleet{}, 4
	case e.Kind == 1:
		f.Berths = without(f.Berths, e.Berth.Name, nameOfBerth, e.Berth)
	case e.Kind == 2 && isBerth:
		for _, c := range modelOn(f, e.Name) {
			f = withCopyAt(f, c.Name, "")
		}
		f.Berths = without(f.Berths, e.Name, nameOfBerth)
	case e.Kind == 3:
		f.Copies = without(f.Copies, e.Copy.Name, nameOfCopy, e.Copy)
	case e.Kind == 4 && isCopy:
		f.Copies = without(f.Copies, e.Name, nameOfCopy)
	case e.Kind == 5 && isCopy && (e.At == "" || hasBerth(f, e.At)):
		moved.At = e.At
		f.Copies = without(f.Copies, e.Name, nameOfCopy, moved)
	default:
		return impl.PilotFleet{}, 3
	}
	if modelFleetFault(f) != "" {
		return impl.PilotFleet{}, 2
	}
	return f, 0
}

// modelCountIn is the first count of a service, nothing if there is none.
func modelCountIn(counts []impl.PilotCount, service string) impl.PilotCount {
	for _, n := range counts {
		if n.Service == service {
			return n
		}
	}
	return impl.PilotCount{}
}

func modelZoneIn(zones []impl.PilotZone, name string) []impl.PilotCount {
	for _, z := range zones {
		if z.Name == name {
			return z.Counts
		}
	}
	return nil
}

// modelRowScore is of a row of any index; false if the copy does not fit there.
func modelRowScore(x impl.PilotIndex, row impl.PilotRow, c impl.PilotCopy) (impl.PilotScore, bool) {
	here := modelCountIn(row.Counts, c.Service)
	zone := modelZoneIn(x.Zones, row.Berth.Zone)
	around := modelCountIn(zone, c.Service)
	meets := func(text string) bool {
		asked, _ := modelParse(text)
		return modelMeets(asked, append([]string{"zone=" + row.Berth.Zone}, row.Berth.Marks...))
	}
	score := impl.PilotScore{Zone: around.N, Berth: here.N, Left: row.Room - c.Room}
	for _, l := range c.Likes {
		if meets(l.Select) {
			score.Like += l.Weight
		}
	}
	alone := c.Near == c.Service && modelCountIn(x.Total, c.Service).N == 0
	for _, bar := range []bool{
		row.Berth.Closed, c.Fixed != "" && c.Fixed != row.Berth.Name, !meets(c.Select),
		here.N > 0 && c.Apart > 0, here.Apart > 0, around.N > 0 && c.Apart == 2, around.Zone > 0,
		c.Near != "" && modelCountIn(zone, c.Near).N == 0 && !alone,
		row.Stand >= 10, row.Room < c.Room, row.Hold < c.Hold,
	} {
		if bar {
			return impl.PilotScore{}, false
		}
	}
	return score, true
}

func modelAsk(x impl.PilotIndex, c impl.PilotCopy) string {
	if modelCopyFault(c) != "" || !modelIsName(c.Name) || !modelIsName(c.Service) {
		return ""
	}
	for _, row := range x.Rows {
		score, fits := modelRowScore(x, row, c)
		if fits && !slices.ContainsFunc(x.Rows, func(other impl.PilotRow) bool {
			better, fits := modelRowScore(x, other, c)
			return fits && modelBetter(better, score, x.Pack)
		}) {
			return row.Berth.Name
		}
	}
	return ""
}

// sameIndex takes the empty and the nil list for one.
func sameIndex(a, b impl.PilotIndex) bool {
	return reflect.DeepEqual(cloneIndex(a), cloneIndex(b))
}

// cloneIndex shares nothing with its index; no list of it is empty but not nil.
func cloneIndex(x impl.PilotIndex) impl.PilotIndex {
	x.Rows, x.Zones, x.Total = nilIfEmpty(x.Rows), nilIfEmpty(x.Zones), nilIfEmpty(x.Total)
	for i := range x.Rows {
		x.Rows[i].Berth.Marks, x.Rows[i].Counts = nilIfEmpty(x.Rows[i].Berth.Marks), nilIfEmpty(x.Rows[i].Counts)
	}
	for i := range x.Zones {
		x.Zones[i].Counts = nilIfEmpty(x.Zones[i].Counts)
	}
	return x
}

// randomBerth is mostly one that could be in a random fleet, under the name of one that is there or under a new one.
func randomBerth(r *rand.Rand, f impl.PilotFleet) impl.PilotBerth {
	b := impl.PilotBerth{
		Name: pickOf(r, "b0", "b1", "b2", "b3", "b25", "a", "z", ""), Zone: pickOf(r, "east", "west", "north", "south", "south", "A"),
		Marks: pickOf(r, nil, []string{"ssd"}, []string{"color=red", "ssd=new"}, []string{"zone=east"}, []string{"ssd", "color"}),
		Room:  r.Intn(20), Hold: r.Intn(20), Closed: r.Intn(4) == 0,
	}
	if len(f.Berths) > 0 && r.Intn(2) == 0 { // one of the fleet, changed in one thing
		kept := pickOf(r, f.Berths...)
		[]func(){
			func() { kept.Zone = b.Zone }, func() { kept.Room += r.Intn(7) - 3 }, func() { kept.Hold += r.Intn(7) - 3 }, func() { kept.Marks = b.Marks }, func() { kept.Closed = !kept.Closed },
		}[r.Intn(5)]()
		return kept
	}
	return b
}

// randomCopyOf is mostly one that could be in a fleet, a new one or one of its own, changed in something.
func randomCopyOf(r *rand.Rand, f impl.PilotFleet) impl.PilotCopy {
	c := randomCopy(r, f, pickOf(r, "a", "c00", "c03", "c05", "c055", "x", fmt.Sprintf("c%02d", r.Intn(20))))
	c.At = pickOf(r, "", "", "b0", "b1", "b2", "b9")
	if len(f.Copies) > 0 && r.Intn(2) == 0 { // one of the fleet, changed in one thing
		kept := pickOf(r, f.Copies...)
		[]func(){
			func() { kept.Service = c.Service }, func() { kept.Apart = c.Apart }, func() { kept.Room = c.Room }, func() { kept.Hold = c.Hold }, func() { kept.At = c.At },
		}[r.Intn(5)]()
		return kept
	}
	if r.Intn(15) == 0 {
		[]func(){func() { c.Rank = 101 }, func() { c.Apart = 3 }, func() { c.Select = "(" }, func() { c.Service = "none" }, func() { c.Name = "A" }, func() { c.Near = " " }}[r.Intn(6)]()
	}
	return c
}

func randomEvent(r *rand.Rand, f impl.PilotFleet) impl.PilotEvent {
	e := impl.PilotEvent{Kind: 1 + r.Intn(5), Berth: randomBerth(r, f), Copy: randomCopyOf(r, f), At: pickOf(r, "", "b0", "b1", "b2", "none")}
	if r.Intn(40) == 0 {
		e.Kind = pickOf(r, 0, 6, -1, 1000)
	}
	names := []string{"none"}
	for range 3 {
		if len(f.Copies) > 0 && e.Kind != 2 {
			names = append(names, pickOf(r, f.Copies...).Name)
		}
		if len(f.Berths) > 0 && e.Kind == 2 {
			names = append(names, pickOf(r, f.Berths...).Name)
		}
	}
	e.Name = pickOf(r, names...)
	return e
}

// roomyFleet is a random fleet with more berths and more room on them, so that more can happen there.
func roomyFleet(r *rand.Rand) impl.PilotFleet {
	f := randomFleet(r)
	for len(f.Berths) < 2+r.Intn(4) {
		f.Berths = append(f.Berths, impl.PilotBerth{Name: fmt.Sprintf("b%d", len(f.Berths)), Zone: pickOf(r, "east", "west", "north")})
	}
	for i := range f.Berths {
		f.Berths[i].Room, f.Berths[i].Hold = f.Berths[i].Room+r.Intn(15), f.Berths[i].Hold+r.Intn(15)
	}
	return randomlyStanding(r, f)
}

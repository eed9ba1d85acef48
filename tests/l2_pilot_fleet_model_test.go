package tests

import (
	"fmt"
	"math/rand"
	"slices"
	"strings"

	"loop.example/wharffleet/impl"
)

// A second reading of chapter 2, made another way than the program: by sorted lists and by what is found when all are walked.

// modelFleetFault is why a fleet is not valid, empty if it is.
func modelFleetFault(f impl.PilotFleet) string {
	var berths, services, copies []string
	for _, b := range f.Berths {
		berths = append(berths, b.Name)
		if fault := modelBerthFault(b); fault != "" {
			return fault
		}
	}
	for _, s := range f.Services {
		services = append(services, s.Name)
		if s.Spare < 0 || s.Spare > 60 {
			return "spare"
		}
	}
	for _, c := range f.Copies {
		copies = append(copies, c.Name)
		if fault := modelCopyFault(c); fault != "" {
			return fault
		}
		if !slices.Contains(services, c.Service) {
			return "service"
		}
		if c.At != "" && !slices.Contains(berths, c.At) {
			return "at"
		}
	}
	if len(berths) > 12 || len(services) > 30 || len(copies) > 60 {
		return "number"
	}
	for _, names := range [][]string{berths, services, copies} {
		if !modelAscending(names) || slices.ContainsFunc(names, func(n string) bool { return !modelIsName(n) }) {
			return "names"
		}
	}
	for _, b := range f.Berths {
		on := modelOn(f, b.Name)
		room, hold := modelUsed(f, b.Name)
		if len(on) > 10 || room > b.Room || hold > b.Hold {
			return "stand"
		}
	}
	return ""
}

func modelAscending(texts []string) bool {
	sorted := slices.Compact(slices.Sorted(slices.Values(texts)))
	return slices.Equal(sorted, texts)
}

func modelBerthFault(b impl.PilotBerth) string {
	var names []string
	for _, m := range b.Marks {
		if !modelHas([]string{m}, func(string, string, bool) bool { return true }) {
			return "mark"
		}
		names = append(names, strings.Split(m, "=")[0])
	}
	slices.Sort(names)
	switch {
	case len(b.Marks) > 10 || !modelAscending(b.Marks) || !modelAscending(names):
		return "marks"
	case !modelIsName(b.Zone):
		return "zone"
	case b.Room < 0 || b.Hold < 0 || b.Room > 1000 || b.Hold > 1000:
		return "berth's size"
	}
	return ""
}

func modelCopyFault(c impl.PilotCopy) string {
	selects := []string{c.Select}
	for _, l := range c.Likes {
		selects = append(selects, l.Select)
		if l.Weight < -9 || l.Weight > 9 {
			return "weight"
		}
	}
	for _, s := range selects {
		if _, code := modelParse(s); code != 0 {
			return "select"
		}
	}
	for _, n := range []string{c.Near, c.Fixed} {
		if n != "" && !modelIsName(n) {
			return "near or fixed"
		}
	}
	switch {
	case len(c.Likes) > 5:
		return "likes"
	case c.Rank < 0 || c.Rank > 100 || c.Born < 0 || c.Born > 1000000:
		return "rank or born"
	case c.Room < 0 || c.Room > 1000 || c.Hold < 0 || c.Hold > 1000:
		return "copy's size"
	case c.Apart != 0 && c.Apart != 1 && c.Apart != 2:
		return "apart"
	}
	return ""
}

// modelOn are the copies that stand on a berth.
func modelOn(f impl.PilotFleet, berth string) []impl.PilotCopy {
	var on []impl.PilotCopy
	for _, c := range f.Copies {
		if c.At == berth && berth != "" {
			on = append(on, c)
		}
	}
	return on
}

func modelUsed(f impl.PilotFleet, berth string) (int, int) {
	room, hold := 0, 0
	if slices.ContainsFunc(f.Berths, func(b impl.PilotBerth) bool { return b.Name == berth }) {
		for _, c := range modelOn(f, berth) {
			room, hold = room+c.Room, hold+c.Hold
		}
	}
	return room, hold
}

// cloneFleet shares nothing with its fleet, and has no room to spare.
func cloneFleet(f impl.PilotFleet) impl.PilotFleet {
	f.Berths, f.Services, f.Copies = slices.Clone(f.Berths), slices.Clone(f.Services), slices.Clone(f.Copies)
	for i := range f.Berths {
		f.Berths[i].Marks = slices.Clone(f.Berths[i].Marks)
	}
	for i := range f.Copies {
		f.Copies[i].Likes = slices.Clone(f.Copies[i].Likes)
	}
	return f
}

// withCopyAt is the fleet with a copy on a berth, and nothing else changed.
func withCopyAt(f impl.PilotFleet, copy, berth string) impl.PilotFleet {
	f = cloneFleet(f)
	for i := range f.Copies {
		if f.Copies[i].Name == copy {
			f.Copies[i].At = berth
		}
	}
	return f
}

func pickOf[T any](r *rand.Rand, list ...T) T { return list[r.Intn(len(list))] }

// randomFleet is a valid fleet that is small and tight, so that much in it speaks against much.
func randomFleet(r *rand.Rand) impl.PilotFleet {
	f := impl.PilotFleet{Pack: r.Intn(2) == 0}
	for i := range r.Intn(5) {
		f.Berths = append(f.Berths, impl.PilotBerth{
			Name: "b" + string(rune('0'+i)), Zone: pickOf(r, "east", "west", "north"),
			Marks: pickOf(r, nil, []string{"ssd"}, []string{"color=red", "ssd=new"}, []string{"color=blue", "zone=west"}),
			Room:  r.Intn(12), Hold: r.Intn(12), Closed: r.Intn(4) == 0,
		})
	}
	for _, s := range pickOf(r, []string{"db"}, []string{"db", "web"}, []string{"cache", "db", "web"}) {
		f.Services = append(f.Services, impl.PilotService{Name: s, Spare: r.Intn(3)})
	}
	for i := range r.Intn(15) {
		f.Copies = append(f.Copies, randomCopy(r, f, fmt.Sprintf("c%02d", i)))
	}
	return randomlyStanding(r, f)
}

func randomCopy(r *rand.Rand, f impl.PilotFleet, name string) impl.PilotCopy {
	c := impl.PilotCopy{
		Name: name, Service: pickOf(r, f.Services...).Name, Rank: r.Intn(4), Born: r.Intn(4), Room: r.Intn(5), Hold: r.Intn(5),
		Select: pickOf(r, "", "", "", "ssd", "!ssd", "zone=west", "color = red | zone=east", " "),
		Apart:  pickOf(r, 0, 0, 0, 1, 2), Near: pickOf(r, "", "", "", "db", "web", "other"), Fixed: pickOf(r, "", "", "", "", "b0", "b1", "b9"),
	}
	if r.Intn(3) == 0 { // so small that a berth can be full
		c.Room, c.Hold = 0, 0
	}
	for range r.Intn(3) {
		c.Likes = append(c.Likes, impl.PilotLike{Select: pickOf(r, "ssd", "color", "zone=west", "zone=east", ""), Weight: r.Intn(19) - 9})
	}
	return c
}

// randomlyStanding lets copies stand, right or not, where the fleet stays valid.
func randomlyStanding(r *rand.Rand, f impl.PilotFleet) impl.PilotFleet {
	for _, c := range f.Copies {
		if len(f.Berths) == 0 || r.Intn(3) == 0 {
			continue
		}
		if moved := withCopyAt(f, c.Name, pickOf(r, f.Berths...).Name); modelFleetFault(moved) == "" {
			f = moved
		}
	}
	return f
}

package tests

import (
	"fmt"
	"math/rand"
	"slices"

	"loop.example/wharffleet/impl"
)

// A second reading of chapter 6, made another way than the program: every set of copies is made, and all that serve are held against each other.

func modelDown(f impl.PilotFleet, service string) int {
	down := 0
	for _, c := range f.Copies {
		if c.Service == service && c.At == "" {
			down++
		}
	}
	return down
}

func modelMayGo(f impl.PilotFleet, gone []string) bool {
	if modelFleetFault(f) != "" || !modelAscending(gone) {
		return false
	}
	among := map[string]int{}
	for _, name := range gone {
		c, known := modelCopy(f, name)
		if !known || c.At == "" {
			return false
		}
		among[c.Service]++
	}
	for _, s := range f.Services {
		if among[s.Name] > 0 && among[s.Name]+modelDown(f, s.Name) > s.Spare {
			return false
		}
	}
	return true
}

// modelHarm is of copies that are there, in a valid fleet.
func modelHarm(f impl.PilotFleet, gone []string) []int {
	var harm []int
	for _, name := range gone {
		c, _ := modelCopy(f, name)
		at := 0
		for at < len(harm) && harm[at] > c.Rank {
			at++
		}
		harm = slices.Insert(harm, at, c.Rank)
	}
	return harm
}

func modelLess(a, b []int) bool {
	for i := range min(len(a), len(b)) {
		if a[i] != b[i] {
			return a[i] < b[i]
		}
	}
	return len(a) < len(b)
}

// modelAhead is for names what modelLess is for ranks.
func modelAhead(a, b []string) bool {
	for i := range min(len(a), len(b)) {
		if a[i] != b[i] {
			return a[i] < b[i]
		}
	}
	return len(a) < len(b)
}

func withGone(f impl.PilotFleet, gone []string) impl.PilotFleet {
	for _, name := range gone {
		f = withCopyAt(f, name, "")
	}
	return f
}

// listsOn are all lists, ascending, of copies on a berth that have a Rank less than one.
func listsOn(f impl.PilotFleet, berth string, rank int) [][]string {
	lists := [][]string{nil}
	for _, c := range modelOn(f, berth) {
		if c.Rank >= rank {
			continue
		}
		for _, l := range lists {
			lists = append(lists, append(slices.Clone(l), c.Name))
		}
	}
	return lists
}

// modelVictims is of a copy that waits, in a valid fleet; equal tells how many lists were as good, but for their names.
func modelVictims(f impl.PilotFleet, c impl.PilotCopy, b impl.PilotBerth) (best []string, ok bool, equal int) {
	for _, gone := range listsOn(f, b.Name, c.Rank) {
		if b.Closed || !modelMayGo(f, gone) || len(modelCodes(withGone(f, gone), c, b)) > 0 {
			continue
		}
		harm, least := modelHarm(f, gone), modelHarm(f, best)
		switch {
		case !ok || modelLess(harm, least):
			best, ok, equal = gone, true, 1
		case !modelLess(least, harm):
			equal++
			if modelAhead(gone, best) {
				best = gone
			}
		}
	}
	return best, ok, equal
}

// tightFleet is a random fleet in which much stands, and much could go for what waits.
func tightFleet(r *rand.Rand) impl.PilotFleet {
	f := impl.PilotFleet{Pack: r.Intn(2) == 0}
	for i := range 1 + r.Intn(4) {
		f.Berths = append(f.Berths, impl.PilotBerth{
			Name: "b" + string(rune('0'+i)), Zone: pickOf(r, "east", "west"), Marks: pickOf(r, nil, []string{"ssd"}),
			Room: r.Intn(15), Hold: 4 + r.Intn(15), Closed: r.Intn(12) == 0,
		})
	}
	for _, s := range []string{"cache", "db", "web"} {
		f.Services = append(f.Services, impl.PilotService{Name: s, Spare: pickOf(r, 0, 2, 4, 6, 9, 15)})
	}
	ranks := 1 + r.Intn(6)
	for i := range r.Intn(18) {
		f.Copies = append(f.Copies, impl.PilotCopy{
			Name: fmt.Sprintf("c%02d", i), Service: pickOf(r, f.Services...).Name, Rank: r.Intn(ranks), Born: r.Intn(3), Room: r.Intn(5), Hold: r.Intn(3),
			Select: pickOf(r, "", "", "", "", "", "", "", "", "ssd", "zone=west"), Apart: pickOf(r, 0, 0, 0, 0, 0, 0, 0, 0, 1, 2), Near: pickOf(r, "", "", "", "", "", "", "", "", "db", "web"),
			Fixed: pickOf(r, "", "", "", "", "", "", "", "", "b0"), Likes: pickOf(r, nil, nil, []impl.PilotLike{{Select: "ssd", Weight: 1}}),
		})
	}
	f = randomlyStanding(r, f)
	for i, c := range f.Copies {
		if c.At == "" && r.Intn(2) == 0 { // so that it has something to ask others to go for
			f.Copies[i].Rank, f.Copies[i].Room = c.Rank+r.Intn(ranks+1), c.Room+r.Intn(6)
		}
	}
	return f
}

package tests

import (
	"math/rand"
	"slices"
	"sort"

	"loop.example/wharffleet/impl"
)

// A second reading of chapter 5, made another way than the program: the queue is sorted whole, and every step makes a new fleet.

func modelQueue(f impl.PilotFleet) []impl.PilotCopy {
	var waiting []impl.PilotCopy
	for _, c := range f.Copies {
		if c.At == "" {
			waiting = append(waiting, c)
		}
	}
	sort.Slice(waiting, func(i, j int) bool {
		a, b := waiting[i], waiting[j]
		if a.Rank != b.Rank {
			return a.Rank > b.Rank
		}
		if a.Born != b.Born {
			return a.Born < b.Born
		}
		return a.Name < b.Name
	})
	return waiting
}

func modelQueueNames(f impl.PilotFleet) []string {
	var names []string
	for _, c := range modelQueue(f) {
		names = append(names, c.Name)
	}
	return names
}

// modelPlace is of a valid fleet.
func modelPlace(f impl.PilotFleet) (impl.PilotFleet, []impl.PilotStep) {
	var steps []impl.PilotStep
	f = cloneFleet(f)
again:
	for _, c := range modelQueue(f) {
		if berth := modelChoose(f, c); berth != "" {
			f = withCopyAt(f, c.Name, berth)
			steps = append(steps, impl.PilotStep{Copy: c.Name, Berth: berth})
			goto again
		}
	}
	return f, steps
}

// waitingFleet is a random fleet in which more waits.
func waitingFleet(r *rand.Rand) impl.PilotFleet {
	f := randomFleet(r)
	for i := range f.Copies {
		if r.Intn(2) == 0 {
			f.Copies[i].At = ""
		}
	}
	return f
}

// twinFleet is a random fleet with copies of few kinds, so that many of them differ in Name and Born alone.
func twinFleet(r *rand.Rand) impl.PilotFleet {
	f := waitingFleet(r)
	if len(f.Copies) == 0 {
		return f
	}
	kinds := slices.Clone(f.Copies[:1+r.Intn(min(4, len(f.Copies)))])
	for i, c := range f.Copies {
		kind := pickOf(r, kinds...)
		kind.Name, kind.Born, kind.At = c.Name, c.Born, ""
		if r.Intn(3) == 0 {
			kind.At = c.At
		}
		f.Copies[i] = kind
	}
	if modelFleetFault(f) != "" {
		for i := range f.Copies {
			f.Copies[i].At = ""
		}
	}
	return cloneFleet(f)
}

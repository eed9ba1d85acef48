package tests

import (
	"fmt"
	"slices"
	"strings"
	"testing"

	"loop.example/wharffleet/impl"
)

// A second reading of chapter 28, made another way than the program: each thing is looked for by a walk from end to end, and what is told is told by the second readings of the chapters ahead of it.

// modelShown is what the pilot is shown of a fleet, valid or not.
func modelShown(w impl.FleetWorld) impl.PilotFleet {
	var f impl.PilotFleet
	for _, b := range plainBerths(w.Berths) {
		for _, s := range w.Stew.Berths {
			b.Closed = b.Closed || s.Name == b.Name && s.Drain
		}
		for _, h := range w.Heard {
			b.Closed = b.Closed || h.Berth == b.Name && w.Mates.Land.Time-h.Time > 40
		}
		f.Berths = append(f.Berths, b)
	}
	for _, s := range w.Stew.Services {
		f.Services = append(f.Services, impl.PilotService{Name: s.Name, Spare: s.Down})
	}
	shown := map[string]impl.PilotCopy{}
	var names []string
	for _, c := range w.Stew.Copies {
		if c.Ending && c.Berth == "" {
			continue
		}
		k, name := modelKindOf(w, c), modelNameOfCopy(c.Service, c.Number)
		names = append(names, name)
		shown[name] = impl.PilotCopy{Name: name, Service: c.Service, Rank: k.Rank, Born: c.Number, Room: k.Room, Hold: k.Hold, Select: k.Select, Apart: k.Apart, At: c.Berth}
	}
	for _, name := range modelSet(names) {
		f.Copies = append(f.Copies, shown[name])
	}
	return f
}

func modelKindOf(w impl.FleetWorld, c impl.StewCopy) impl.FleetKind {
	for _, k := range w.Kinds {
		if k.Service == c.Service {
			return k
		}
	}
	return impl.FleetKind{}
}

func modelPilotOf(w impl.FleetWorld) impl.PilotFleet {
	if len(modelWharfFaults(w)) > 0 {
		return impl.PilotFleet{}
	}
	return modelShown(w)
}

func modelPlaced(w impl.FleetWorld, note func(string)) impl.FleetWorld {
	if len(modelWharfFaults(w)) > 0 {
		note("not valid")
		return impl.FleetWorld{}
	}
	w = plainWharf(w)
	f := modelShown(w)
	if fault := modelFleetFault(f); fault != "" {
		note("no fleet for the pilot: " + fault)
		return w
	}
	_, steps := modelPlace(f)
	switch {
	case len(steps) == 0:
		note("nothing to place")
		return w
	case w.Stew.Now == 1000000:
		note("at the end of versions")
		return w
	}
	w.Stew.Now++
	for _, s := range steps {
		for i, c := range w.Stew.Copies {
			if modelNameOfCopy(c.Service, c.Number) != s.Copy {
				continue
			}
			w.Stew.Copies[i].State, w.Stew.Copies[i].Berth, w.Stew.Copies[i].Version = 2, s.Berth, w.Stew.Now
			slot := 0
			for slices.ContainsFunc(w.Slots, func(x impl.FleetSlot) bool { return x.Service == c.Service && x.Slot == slot }) {
				slot++
			}
			if slices.ContainsFunc(w.Slots, func(x impl.FleetSlot) bool { return x.Service == c.Service && x.Slot > slot }) {
				note("a slot in a gap")
			}
			w.Slots = slotsInOrder(append(w.Slots, impl.FleetSlot{Service: c.Service, Number: c.Number, Slot: slot}))
		}
	}
	note("placed " + fmt.Sprint(min(3, len(steps))))
	return w
}

// modelWanted is what a berth is to run, in a fleet that is valid or about to be.
func modelWanted(w impl.FleetWorld, berth string) []impl.MateWant {
	var list []impl.MateWant
	for _, c := range w.Stew.Copies {
		if c.Ending || c.Berth == "" || c.Berth != berth {
			continue
		}
		k := modelKindOf(w, c)
		want := impl.MateWant{Copy: fmt.Sprint(c.Service, "-", c.Number), Version: c.Image, Pull: k.Pull, Start: k.Start, Grace: k.Grace}
		for _, s := range w.Slots {
			if k.Volume && s.Service == c.Service && s.Number == c.Number {
				want.Hold = fmt.Sprintf("v-%s-%d", s.Service, s.Slot)
			}
		}
		list = append(list, want)
	}
	slices.SortFunc(list, func(a, b impl.MateWant) int { return strings.Compare(a.Copy, b.Copy) })
	return list
}

func modelWantsOf(w impl.FleetWorld, berth string) []impl.MateWant {
	if len(modelWharfFaults(w)) > 0 {
		return nil
	}
	return modelWanted(w, berth)
}

// placeOf is what a berth's place wants, and its Seen; nothing where there is none.
func placeOf(w impl.FleetWorld, berth string) impl.MatePlace {
	for _, p := range w.Mates.Land.Places {
		if p.Berth == berth {
			return p
		}
	}
	return impl.MatePlace{}
}

func modelTold(w impl.FleetWorld, note func(string)) impl.FleetWorld {
	if len(modelWharfFaults(w)) > 0 {
		return impl.FleetWorld{}
	}
	w = plainWharf(w)
	put := func(pass, berth string, wants []impl.MateWant) {
		if fmt.Sprint(nilIfEmpty(wants)) == fmt.Sprint(nilIfEmpty(placeOf(w, berth).Wants)) {
			note(pass + " nothing")
			return
		}
		next, code := modelPut(w.Mates.Land, berth, wants)
		note(fmt.Sprint(pass, " code ", code))
		w.Mates.Land = next
	}
	for _, b := range w.Berths {
		var kept []impl.MateWant
		for _, had := range placeOf(w, b.Name).Wants {
			for _, want := range modelWanted(w, b.Name) {
				if had == want {
					kept = append(kept, had)
				}
			}
		}
		put("goes:", b.Name, kept)
	}
	for _, b := range w.Berths {
		put("comes:", b.Name, modelWanted(w, b.Name))
	}
	return w
}

// checkPlaceAndTell holds all functions of chapter 28 against the second reading.
func checkPlaceAndTell(t *testing.T, what string, w impl.FleetWorld, note func(string)) {
	t.Helper()
	if got, want := impl.FleetPilot(w), modelPilotOf(w); !sameFleet(got, want) {
		t.Errorf("%s: FleetPilot of %+v\nis %+v\nnot %+v", what, w, got, want)
	}
	if got, want := impl.FleetPlace(w), modelPlaced(w, note); !sameWharf(got, want) {
		t.Errorf("%s: FleetPlace of %+v\nis %+v\nnot %+v", what, w, got, want)
	}
	names := []string{"", "a", "nowhere"}
	for _, b := range w.Berths {
		names = append(names, b.Name)
	}
	for _, berth := range modelSet(names) {
		if got, want := impl.FleetWants(w, berth), modelWantsOf(w, berth); !slices.Equal(got, want) {
			t.Errorf("%s: FleetWants of %q in %+v\nare %+v\nnot %+v", what, berth, w, got, want)
		}
	}
	if got, want := impl.FleetTell(w), modelTold(w, note); !sameWharf(got, want) {
		t.Errorf("%s: FleetTell of %+v\nis %+v\nnot %+v", what, w, got, want)
	}
}

package tests

import (
	"slices"

	"loop.example/wharffleet/impl"
)

// A second reading of chapter 3, made another way than the program: all that is so of a copy and a berth is told, and the first is taken.

func modelFits(f impl.PilotFleet, copy, berth string) int {
	c := slices.IndexFunc(f.Copies, func(c impl.PilotCopy) bool { return c.Name == copy })
	b := slices.IndexFunc(f.Berths, func(b impl.PilotBerth) bool { return b.Name == berth })
	if modelFleetFault(f) != "" || c < 0 || b < 0 {
		return 9
	}
	codes := modelCodes(f, f.Copies[c], f.Berths[b])
	if f.Berths[b].Closed {
		codes = append(codes, 1)
	}
	slices.Sort(codes)
	return append(codes, 0)[0]
}

// modelCodes are all codes but 1 that are so, in any order.
func modelCodes(f impl.PilotFleet, c impl.PilotCopy, b impl.PilotBerth) []int {
	f = withCopyAt(f, c.Name, "")
	on, inZone := modelOn(f, b.Name), modelInZone(f, b.Zone)
	room, hold := modelUsed(f, b.Name)
	asked, _ := modelParse(c.Select)
	near, own := 0, 0
	for _, o := range inZone {
		if o.Service == c.Near {
			near++
		}
	}
	for _, o := range f.Copies {
		if o.At != "" && o.Service == c.Service {
			own++
		}
	}
	var codes []int
	for code, is := range map[int]bool{
		2: c.Fixed != "" && c.Fixed != b.Name,
		3: !modelMeets(asked, append([]string{"zone=" + b.Zone}, b.Marks...)),
		4: modelApart(on, c, 1) || modelApart(on, c, 2) || modelApart(inZone, c, 2),
		5: c.Near != "" && near == 0 && !(c.Near == c.Service && own == 0),
		6: len(on) == 10,
		7: room+c.Room > b.Room,
		8: hold+c.Hold > b.Hold,
	} {
		if is {
			codes = append(codes, code)
		}
	}
	return codes
}

func modelInZone(f impl.PilotFleet, zone string) []impl.PilotCopy {
	var in []impl.PilotCopy
	for _, b := range f.Berths {
		if b.Zone == zone {
			in = append(in, modelOn(f, b.Name)...)
		}
	}
	return in
}

// modelApart says whether there is another of its service, and one of the two is apart so.
func modelApart(others []impl.PilotCopy, c impl.PilotCopy, apart int) bool {
	return slices.ContainsFunc(others, func(o impl.PilotCopy) bool {
		return o.Service == c.Service && (o.Apart == apart || c.Apart == apart)
	})
}

func modelRight(f impl.PilotFleet) []string {
	var names []string
	for _, b := range f.Berths {
		for _, c := range modelOn(f, b.Name) {
			if modelFleetFault(f) == "" && len(modelCodes(f, c, b)) > 0 {
				names = append(names, c.Name)
			}
		}
	}
	slices.Sort(names)
	return names
}

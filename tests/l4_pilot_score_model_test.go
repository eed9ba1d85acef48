package tests

import (
	"slices"

	"loop.example/wharffleet/impl"
)

// A second reading of chapter 4, made another way than the program: scores are told of a fleet in which the copy waits, and every berth is held against every other one.

func modelCopy(f impl.PilotFleet, name string) (impl.PilotCopy, bool) {
	at := slices.IndexFunc(f.Copies, func(c impl.PilotCopy) bool { return c.Name == name })
	if at < 0 {
		return impl.PilotCopy{}, false
	}
	return f.Copies[at], true
}

// modelScore is of a copy and a berth that are there, in a valid fleet.
func modelScore(f impl.PilotFleet, c impl.PilotCopy, b impl.PilotBerth) impl.PilotScore {
	f = withCopyAt(f, c.Name, "")
	var s impl.PilotScore
	for _, l := range c.Likes {
		if asked, code := modelParse(l.Select); code == 0 && modelMeets(asked, append([]string{"zone=" + b.Zone}, b.Marks...)) {
			s.Like += l.Weight
		}
	}
	own := func(o impl.PilotCopy) bool { return o.Service != c.Service }
	s.Zone = len(slices.DeleteFunc(modelInZone(f, b.Zone), own))
	s.Berth = len(slices.DeleteFunc(modelOn(f, b.Name), own))
	used, _ := modelUsed(f, b.Name)
	s.Left = b.Room - used - c.Room
	return s
}

func modelBetter(a, b impl.PilotScore, pack bool) bool {
	switch {
	case a.Like != b.Like:
		return a.Like > b.Like
	case a.Zone != b.Zone:
		return a.Zone < b.Zone
	case a.Berth != b.Berth:
		return a.Berth < b.Berth
	case pack:
		return a.Left < b.Left
	}
	return a.Left > b.Left
}

// modelOffers are the berths that a copy of a valid fleet fits on, with their scores.
func modelOffers(f impl.PilotFleet, c impl.PilotCopy) map[string]impl.PilotScore {
	offers := map[string]impl.PilotScore{}
	for _, b := range f.Berths {
		if !b.Closed && len(modelCodes(f, c, b)) == 0 {
			offers[b.Name] = modelScore(f, c, b)
		}
	}
	return offers
}

// modelChoose is of a copy of a valid fleet.
func modelChoose(f impl.PilotFleet, c impl.PilotCopy) string {
	offers := modelOffers(f, c)
	var best []string
	for name, score := range offers {
		beaten := false
		for _, other := range offers {
			beaten = beaten || modelBetter(other, score, f.Pack)
		}
		if !beaten {
			best = append(best, name)
		}
	}
	if len(best) == 0 {
		return ""
	}
	return slices.Min(best)
}

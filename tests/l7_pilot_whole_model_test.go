package tests

import (
	"math/rand"
	"slices"

	"loop.example/wharffleet/impl"
)

// A second reading of chapter 7, made another way than the program: all that could be done is listed, and what others are ahead of is struck out.

type modelWay struct {
	berth string
	gone  []string
	harm  []int
	score impl.PilotScore
}

// modelWays are those of a copy that waits, in a valid fleet.
func modelWays(f impl.PilotFleet, c impl.PilotCopy) []modelWay {
	var ways []modelWay
	for _, b := range f.Berths {
		if gone, ok, _ := modelVictims(f, c, b); ok {
			ways = append(ways, modelWay{b.Name, gone, modelHarm(f, gone), modelScore(withGone(f, gone), c, b)})
		}
	}
	return ways
}

func modelWayAhead(a, b modelWay, pack bool) bool {
	switch {
	case !slices.Equal(a.harm, b.harm):
		return modelLess(a.harm, b.harm)
	case a.score != b.score:
		return modelBetter(a.score, b.score, pack)
	}
	return a.berth < b.berth
}

// modelBestWay is false if there is none.
func modelBestWay(f impl.PilotFleet, c impl.PilotCopy) (modelWay, bool) {
	ways := modelWays(f, c)
	for _, a := range ways {
		if !slices.ContainsFunc(ways, func(b modelWay) bool { return modelWayAhead(b, a, f.Pack) }) {
			return a, true
		}
	}
	return modelWay{}, false
}

// modelNext is of a valid fleet.
func modelNext(f impl.PilotFleet) (impl.PilotStep, bool) {
	for _, c := range modelQueue(f) {
		if berth := modelChoose(f, c); berth != "" {
			return impl.PilotStep{Copy: c.Name, Berth: berth}, true
		}
	}
	for _, c := range modelQueue(f) {
		if way, ok := modelBestWay(f, c); ok {
			return impl.PilotStep{Copy: c.Name, Berth: way.berth, Gone: way.gone}, true
		}
	}
	return impl.PilotStep{}, false
}

func modelDo(f impl.PilotFleet, s impl.PilotStep) (impl.PilotFleet, bool) {
	c, known := modelCopy(f, s.Copy)
	if !known || c.At != "" || !modelMayGo(f, s.Gone) {
		return impl.PilotFleet{}, false
	}
	for _, name := range s.Gone {
		if g, _ := modelCopy(f, name); g.At != s.Berth {
			return impl.PilotFleet{}, false
		}
	}
	f = withGone(f, s.Gone)
	if modelFits(f, s.Copy, s.Berth) != 0 {
		return impl.PilotFleet{}, false
	}
	return withCopyAt(f, s.Copy, s.Berth), true
}

func sameStep(a, b impl.PilotStep) bool {
	return a.Copy == b.Copy && a.Berth == b.Berth && slices.Equal(a.Gone, b.Gone)
}

// greatFleet has so many berths with so many copies each, and so many copies that wait, of all ranks, some too great for any berth.
func greatFleet(berths, stand, wait int) impl.PilotFleet {
	r := rand.New(rand.NewSource(int64(berths*1000 + stand*100 + wait)))
	f := impl.PilotFleet{}
	f.Services = numbered(impl.PilotMaxServices, func(name string) impl.PilotService { return impl.PilotService{Name: name, Spare: 1 + r.Intn(3)} })
	f.Berths = numbered(berths, func(name string) impl.PilotBerth {
		return impl.PilotBerth{Name: name, Zone: "z" + name[3:], Marks: []string{"ssd"}, Room: 1000, Hold: 1000}
	})
	f.Copies = numbered(berths*stand+wait, func(name string) impl.PilotCopy {
		return impl.PilotCopy{Name: name, Service: pickOf(r, f.Services...).Name, Rank: r.Intn(90), Room: 1000/max(stand, 1) - r.Intn(5), Hold: r.Intn(900/max(stand, 1) + 1), Select: "ssd & !(a | b | c)", Apart: pickOf(r, 0, 0, 0, 0, 1, 2)}
	})
	order := r.Perm(len(f.Copies))
	for i, at := range order {
		c := &f.Copies[at]
		if i < berths*stand {
			c.At = f.Berths[i%berths].Name
		} else {
			c.Rank += r.Intn(11)
			c.Room, c.Hold = r.Intn(1001), r.Intn(1001)
		}
	}
	return f
}

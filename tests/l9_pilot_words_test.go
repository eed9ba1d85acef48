package tests

import (
	"fmt"
	"math/rand"
	"slices"
	"strings"
	"sync"
	"testing"

	"loop.example/wharffleet/impl"
)

// A second reading of chapter 9, made another way than the program: by what the second readings of the chapters ahead say.

// modelWhy is of a copy of a valid fleet.
func modelWhy(f impl.PilotFleet, c impl.PilotCopy) string {
	if c.At != "" {
		return "stands on " + c.At
	}
	if berth := modelChoose(f, c); berth != "" {
		return "fits on " + berth
	}
	var parts []string
	for i, word := range []string{"closed", "elsewhere", "not marked so", "too near its own", "too far", "full", "without room", "without hold"} {
		n := 0
		for _, b := range f.Berths {
			if modelFits(f, c.Name, b.Name) == i+1 {
				n++
			}
		}
		if n > 0 {
			parts = append(parts, fmt.Sprintf(" %d %s", n, word))
		}
	}
	why := fmt.Sprintf("0 of %d berths:%s", len(f.Berths), strings.Join(parts, ","))
	if way, ok := modelBestWay(f, c); ok {
		why += "; could stand on " + way.berth + " for " + strings.Join(way.gone, " ")
	}
	return why
}

func checkWhy(t *testing.T, f impl.PilotFleet, copy, want string) {
	t.Helper()
	if !impl.PilotValid(f) {
		t.Fatalf("not valid: %+v", f)
	}
	if got := impl.PilotWhy(f, copy); got != want {
		t.Errorf("PilotWhy is %q, not %q: %+v", got, want, f)
	}
	c, _ := modelCopy(f, copy)
	if got := modelWhy(f, c); got != want {
		t.Errorf("the second reading is %q, not %q: %+v", got, want, f)
	}
	checkPromise12(t, f, c, impl.PilotWhy(f, copy))
}

// checkPromise12 holds promise 12 of what is said of a copy.
func checkPromise12(t *testing.T, f impl.PilotFleet, c impl.PilotCopy, why string) {
	t.Helper()
	fits := strings.HasPrefix(why, "fits on ")
	if chosen := impl.PilotChoose(f, c.Name); c.At == "" && fits != (chosen != "") || fits && why != "fits on "+chosen {
		t.Fatalf("PilotWhy(%+v, %q) is %q, and PilotChoose %q", f, c.Name, why, chosen)
	}
	rest, none := strings.CutPrefix(why, fmt.Sprintf("0 of %d berths:", len(f.Berths)))
	if !none {
		return
	}
	rest, _, _ = strings.Cut(rest, ";")
	sum := 0
	for _, part := range strings.Split(rest, ",") {
		n := 0
		fmt.Sscan(part, &n)
		sum += n
	}
	if sum != len(f.Berths) {
		t.Fatalf("PilotWhy(%+v, %q) is %q", f, c.Name, why)
	}
}

func TestPilotWhy(t *testing.T) {
	checkWhy(t, askedFleet(impl.PilotCopy{At: "a2"}), "me", "stands on a2")
	checkWhy(t, askedFleet(impl.PilotCopy{At: "a2", Fixed: "b1", Select: "none"}), "me", "stands on a2")
	checkWhy(t, askedFleet(impl.PilotCopy{}), "me", "fits on a1")
	checkWhy(t, askedFleet(impl.PilotCopy{Fixed: "b1"}), "me", "fits on b1")
	checkWhy(t, askedFleet(impl.PilotCopy{Rank: 9, Room: 9}, impl.PilotCopy{At: "a1", Room: 9}), "me", "fits on b1")
	checkWhy(t, askedFleet(impl.PilotCopy{Room: 11}), "me", "0 of 3 berths: 3 without room")
	checkWhy(t, askedFleet(impl.PilotCopy{Hold: 11}), "me", "0 of 3 berths: 3 without hold")
	checkWhy(t, askedFleet(impl.PilotCopy{Fixed: "none"}), "me", "0 of 3 berths: 3 elsewhere")
	checkWhy(t, askedFleet(impl.PilotCopy{Fixed: "a1", Select: "zone=b"}), "me", "0 of 3 berths: 2 elsewhere, 1 not marked so")
	checkWhy(t, askedFleet(impl.PilotCopy{Near: "db"}), "me", "0 of 3 berths: 3 too far")
	checkWhy(t, askedFleet(impl.PilotCopy{Near: "db", Apart: impl.PilotApartZone}, impl.PilotCopy{At: "a1"}), "me", "0 of 3 berths: 2 too near its own, 1 too far")
	f := askedFleet(impl.PilotCopy{Room: 11})
	f.Berths[1].Closed = true
	checkWhy(t, f, "me", "0 of 3 berths: 1 closed, 2 without room")
	f.Berths = f.Berths[:1]
	checkWhy(t, f, "me", "0 of 1 berths: 1 without room")
	f.Berths = nil
	checkWhy(t, f, "me", "0 of 0 berths:")
	// No such copy.
	for _, name := range []string{"", "none", "a1", "Me", "me ", "web", "m"} {
		if got := impl.PilotWhy(askedFleet(impl.PilotCopy{}), name); got != "" {
			t.Errorf("PilotWhy of %q is %q", name, got)
		}
	}
	if got := impl.PilotWhy(impl.PilotFleet{}, ""); got != "" {
		t.Errorf("PilotWhy of nothing is %q", got)
	}
}

// The berth and the victims are those that PilotNext would tell, were this copy the first in the queue.
func TestPilotWhyVictims(t *testing.T) {
	checkWhy(t, wayFleet(waiting(9, 9), standing("a1", 3, 9), standing("a2", 2, 9), standing("b1", 4, 9)), "a", "0 of 3 berths: 3 without room; could stand on a2 for c")
	checkWhy(t, wayFleet(waiting(9, 9), standing("a1", 3, 9), standing("a2", 2, 9), standing("b1", 1, 3), standing("b1", 1, 4)), "a", "0 of 3 berths: 3 without room; could stand on b1 for d e")
	checkWhy(t, wayFleet(waiting(9, 9), standing("a1", 9, 9), standing("a2", 10, 9), standing("b1", 11, 9)), "a", "0 of 3 berths: 3 without room")
	checkWhy(t, wayFleet(waiting(9, 9), standing("a1", 9, 9), standing("a2", 8, 9), standing("b1", 11, 9)), "a", "0 of 3 berths: 3 without room; could stand on a2 for c")
	// One that is behind others in the queue, and one with others that fit, is asked for alone.
	f := wayFleet(waiting(9, 10), waiting(5, 7), waiting(7, 1), standing("a1", 3, 9), standing("a2", 2, 9), standing("b1", 2, 8))
	checkWhy(t, f, "a", "0 of 3 berths: 3 without room; could stand on a2 for e")
	checkWhy(t, f, "b", "0 of 3 berths: 3 without room; could stand on a2 for e")
	checkWhy(t, f, "c", "fits on b1")
	// Of one harm the score without those that go, then the name.
	f.Copies[3].Rank = 2
	checkWhy(t, f, "b", "0 of 3 berths: 3 without room; could stand on a1 for d")
	f.Copies[0].Likes = []impl.PilotLike{{Select: "zone=a", Weight: -1}}
	checkWhy(t, f, "a", "0 of 3 berths: 3 without room; could stand on b1 for f")
	// Without enough to spare nobody may go.
	f.Services[0].Spare = 0
	checkWhy(t, f, "a", "0 of 3 berths: 3 without room")
	// Some of the berths could be cleared, others not.
	f.Services[0].Spare = 9
	f.Berths[2].Closed = true
	f.Copies[0].Fixed = "a2"
	checkWhy(t, f, "a", "0 of 3 berths: 1 closed, 1 elsewhere, 1 without room; could stand on a2 for e")
	f.Copies[0].Fixed = "b1"
	checkWhy(t, f, "a", "0 of 3 berths: 1 closed, 2 elsewhere")
}

// whyFleet is a great fleet: of each of its berths another thing, or the same one, speaks against the copy me, which waits; codes are those of the berths.
func whyFleet(codes ...int) impl.PilotFleet {
	f := impl.PilotFleet{Services: []impl.PilotService{{Name: "db"}, {Name: "few"}, {Name: "web"}}}
	me := impl.PilotCopy{Name: "me", Service: "web", Rank: 100, Room: 500, Hold: 500, Select: "fine", Near: "db", Apart: impl.PilotApartBerth}
	if slices.Contains(codes, impl.PilotElsewhere) { // it is fixed to one alone: the last
		me.Fixed = fmt.Sprintf("n%03d", len(codes)-1)
	}
	f.Copies = append(f.Copies, me)
	put := func(service, at string, room int) {
		f.Copies = append(f.Copies, impl.PilotCopy{Name: fmt.Sprintf("o%02d", len(f.Copies)), Service: service, At: at, Room: room, Rank: 100})
	}
	for i, code := range codes {
		b := impl.PilotBerth{Name: fmt.Sprintf("n%03d", i), Zone: "near", Marks: []string{"fine"}, Room: 1000, Hold: 1000}
		switch code {
		case impl.PilotClosed:
			b.Closed = true
		case impl.PilotMarked:
			b.Marks = []string{"wrong"}
		case impl.PilotTogether:
			put("web", b.Name, 0)
		case impl.PilotFar:
			b.Zone = "far"
		case impl.PilotFull:
			for range 10 {
				put("few", b.Name, 0)
			}
		case impl.PilotRoomless:
			put("few", b.Name, 501)
		case impl.PilotHoldless:
			b.Hold = 499
		}
		f.Berths = append(f.Berths, b)
	}
	// What it is to be near to stands on a berth that is closed.
	f.Berths = append(f.Berths, impl.PilotBerth{Name: "z", Zone: "near", Closed: true})
	put("db", "z", 0)
	return f
}

func TestPilotWhyGreatest(t *testing.T) {
	words := []string{"", "closed", "elsewhere", "not marked so", "too near its own", "too far", "full", "without room", "without hold"}
	for code := 1; code <= 8; code++ {
		if code == impl.PilotElsewhere {
			continue
		}
		n := 11
		if code == impl.PilotFull { // ten on each are all that there may be
			n = 5
		}
		want := fmt.Sprintf("0 of %d berths: 1 closed, %d %s", n+1, n, words[code])
		if code == impl.PilotClosed {
			want = fmt.Sprintf("0 of %d berths: %d closed", n+1, n+1)
		}
		checkWhy(t, whyFleet(slices.Repeat([]int{code}, n)...), "me", want)
	}
	checkWhy(t, whyFleet(slices.Repeat([]int{2}, 11)...), "me", "fits on n010")
	f := whyFleet(slices.Repeat([]int{2}, 11)...)
	f.Copies[0].Fixed = "none"
	checkWhy(t, f, "me", "0 of 12 berths: 1 closed, 11 elsewhere")
	checkWhy(t, whyFleet(2, 2, 2, 2, 2, 2, 2, 2, 2, 2, 7), "me", "0 of 12 berths: 1 closed, 10 elsewhere, 1 without room")
	checkWhy(t, whyFleet(8, 7, 6, 5, 4, 3, 1, 8, 5), "me", "0 of 10 berths: 2 closed, 1 not marked so, 1 too near its own, 2 too far, 1 full, 1 without room, 2 without hold")
	checkWhy(t, whyFleet(3, 3, 4, 4, 5, 5, 6, 6, 7, 8, 8), "me", "0 of 12 berths: 1 closed, 2 not marked so, 2 too near its own, 2 too far, 2 full, 1 without room, 2 without hold")
	checkWhy(t, whyFleet(3, 5, 7), "me", "0 of 4 berths: 1 closed, 1 not marked so, 1 too far, 1 without room")
	checkWhy(t, whyFleet(3, 5, 0), "me", "fits on n002")
	checkWhy(t, whyFleet(2, 1, 2, 1, 4), "me", "0 of 6 berths: 3 closed, 2 elsewhere, 1 too near its own")
	checkWhy(t, whyFleet(1, 2, 8), "me", "0 of 4 berths: 2 closed, 1 elsewhere, 1 without hold")
}

// Great fleets in which much could go: what is said is said soon.
func TestPilotWhyInGoodTime(t *testing.T) {
	for _, c := range [][3]int{{1, 10, 50}, {5, 10, 10}, {12, 4, 12}, {6, 9, 6}, {12, 5, 0}} {
		f := greatFleet(c[0], c[1], c[2])
		for i := range f.Services {
			f.Services[i].Spare = 60
		}
		end, _ := impl.PilotPlace(f)
		inGoodTime(t, "PilotWhy", func() {
			for _, copy := range end.Copies {
				why := impl.PilotWhy(end, copy.Name)
				checkPromise12(t, end, copy, why)
				if copy.At != "" && why != "stands on "+copy.At || copy.At == "" && !strings.HasPrefix(why, "0 of ") {
					t.Errorf("%v: PilotWhy of %+v is %q", c, copy, why)
				}
			}
		})
	}
}

func TestPromise12Random(t *testing.T) {
	t.Parallel()
	r := rand.New(rand.NewSource(47))
	met := map[string]int{}
	for i := range 1200 {
		f := tightFleet(r)
		if i%2 == 0 {
			f = waitingFleet(r)
		}
		for _, c := range f.Copies {
			why := impl.PilotWhy(f, c.Name)
			if want := modelWhy(f, c); why != want {
				t.Fatalf("PilotWhy(%+v, %q) is %q, not %q", f, c.Name, why, want)
			}
			checkPromise12(t, f, c, why)
			for _, word := range []string{"stands", "fits", "closed", "elsewhere", "not marked so", "too near its own", "too far", "without room", "without hold", "could stand"} {
				if strings.Contains(why, word) {
					met[word]++
				}
			}
		}
	}
	for _, word := range []string{"stands", "fits", "closed", "elsewhere", "not marked so", "too near its own", "too far", "without room", "without hold", "could stand"} {
		if met[word] < 40 {
			t.Errorf("%q was met %d times: the fleets tell too little", word, met[word])
		}
	}
}

// What PilotNext tells of the first in the queue is what is said of it, where nothing else fits.
func TestPilotWhyIsWhatIsNext(t *testing.T) {
	t.Parallel()
	r := rand.New(rand.NewSource(48))
	met := 0
	for range 1500 {
		f, _ := impl.PilotPlace(tightFleet(r))
		step, ok := impl.PilotNext(f)
		if !ok {
			continue
		}
		met++
		want := "; could stand on " + step.Berth + " for " + strings.Join(step.Gone, " ")
		if got := impl.PilotWhy(f, step.Copy); !strings.HasSuffix(got, want) {
			t.Fatalf("PilotWhy(%+v, %q) is %q, and PilotNext %+v", f, step.Copy, got, step)
		}
	}
	if met < 200 {
		t.Errorf("%d fleets had a next step", met)
	}
}

// Several at once ask of one fleet: what is tried while victims are looked for is not to be seen in it.
func TestPilotWhySeveralAtOnce(t *testing.T) {
	f, _ := impl.PilotPlace(greatFleet(5, 10, 10))
	for i := range f.Services {
		f.Services[i].Spare = 60
	}
	want, victims := map[string]string{}, 0
	for _, c := range f.Copies {
		want[c.Name] = impl.PilotWhy(f, c.Name)
		if strings.Contains(want[c.Name], "; could stand on ") {
			victims++
		}
	}
	if victims < 5 {
		t.Errorf("%d could stand for others: the fleet tells too little", victims)
	}
	var all sync.WaitGroup
	for range 8 {
		all.Go(func() {
			for _, c := range f.Copies {
				if got := impl.PilotWhy(f, c.Name); got != want[c.Name] {
					t.Errorf("PilotWhy of %q is %q, not %q", c.Name, got, want[c.Name])
				}
			}
		})
	}
	all.Wait()
}

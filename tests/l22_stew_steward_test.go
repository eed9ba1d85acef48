package tests

import (
	"fmt"
	"math"
	"slices"
	"strings"
	"testing"

	"loop.example/wharffleet/impl"
)

// crewBook has one service, web, of image 2, whose copies 1, 2 and so on are told by letters: w, s, r or f for their States, o of an old image, d on a berth that is to be drained, e Ending.
func crewBook(want, down, over int, copies ...string) impl.StewBook {
	b := impl.StewBook{
		Now:      900,
		Services: []impl.StewService{{Name: "web", Version: 7, Image: 2, Want: want, Down: down, Over: over, Next: len(copies) + 1}},
		Berths:   []impl.StewBerth{{Name: "a"}, {Name: "b", Drain: true}},
	}
	for i, letters := range copies {
		c := impl.StewCopy{Service: "web", Number: i + 1, Version: 100 + i, Image: 2, State: 1 + strings.IndexByte("wsrf", letters[0]), Berth: "a"}
		for _, l := range letters[1:] {
			switch l {
			case 'o':
				c.Image = 1 + 2*(i%2) // older and newer than that of the service
			case 'd':
				c.Berth = "b"
			case 'e':
				c.Ending = true
			}
		}
		if c.State == impl.StewWaiting {
			c.Berth = ""
		}
		b.Copies = append(b.Copies, c)
	}
	return b
}

// crewOf is so many copies of each of some kinds.
func crewOf(kinds ...any) []string {
	var copies []string
	for i := 0; i < len(kinds); i += 2 {
		copies = append(copies, slices.Repeat([]string{kinds[i+1].(string)}, kinds[i].(int))...)
	}
	return copies
}

func goneBook(copies ...string) impl.StewBook {
	b := crewBook(2, 1, 1, copies...)
	b.Services[0].Gone = true
	return b
}

func TestStewAskByHand(t *testing.T) {
	for what, c := range map[string]struct {
		book impl.StewBook
		want string
	}{
		"nothing":             {impl.StewBook{}, ""},
		"berths alone":        {impl.StewBook{Now: 1, Berths: []impl.StewBerth{{Name: "a", Drain: true}}}, ""},
		"a full one":          {fullBook(), "1 db -2, 1 web +8, 2 db -2, 3 db -7, 4 db =3/0"},
		"one for acts":        {actBook(), "1 db -9, 1 web +10, 2 api +1, 2 db -3, 3 db -7, 3 gone -2, 4 db =3/0, 4 web =10/1, 5 gone -1 -2, 5 left drop"},
		"all is well":         {crewBook(2, 1, 1, "r", "r"), ""},
		"none is there":       {crewBook(2, 1, 1), "1 web +2"},
		"none is wanted":      {crewBook(0, 1, 1), ""},
		"one is old":          {crewBook(2, 1, 1, "r", "ro"), "2 web +1"},
		"one is to go":        {crewBook(2, 1, 1, "r", "rd"), "6 web +1"},
		"both":                {crewBook(2, 1, 1, "ro", "rd"), "2 web +1"},
		"both in one":         {crewBook(2, 1, 1, "r", "rod"), "2 web +1"},
		"one waits":           {crewBook(2, 1, 1, "r", "w"), ""},
		"one starts":          {crewBook(2, 1, 1, "s", "r"), ""},
		"one has failed":      {crewBook(2, 1, 1, "f", "r"), "3 web -1"},
		"one ends":            {crewBook(2, 1, 1, "re", "r"), "1 web +1"},
		"one ends beside two": {crewBook(2, 1, 1, "r", "re", "r"), ""},
		"gone":                {goneBook("r", "ro", "fd", "w", "se"), "3 web -3, 5 web -1 -2 -3 -4"},
	} {
		if got := askedOf(t, what, c.book); got != c.want {
			t.Errorf("%s: %q, not %q", what, got, c.want)
		}
	}
}

// In each act are the versions that the steward saw, and nothing else beside what is to be done.
func TestStewAskWholeActs(t *testing.T) {
	for _, c := range []struct {
		kind int
		want []impl.StewAct
	}{
		{impl.StewCounter, []impl.StewAct{{Service: "db", Seen: 20, Ends: endsSeen([2]int{9, 29})}, {Service: "web", Seen: 45, Create: 10}}},
		{impl.StewWaver, []impl.StewAct{{Service: "api", Seen: 10, Create: 1}, {Service: "db", Seen: 20, Ends: endsSeen([2]int{3, 23})}}},
		{impl.StewMender, []impl.StewAct{{Service: "db", Seen: 20, Ends: endsSeen([2]int{7, 27})}, {Service: "gone", Seen: 30, Ends: endsSeen([2]int{2, 32})}}},
		{impl.StewScaler, []impl.StewAct{{Service: "db", Seen: 20, Scale: true, Want: 3}, {Service: "web", Seen: 45, Scale: true, Want: 10, Cool: 1}}},
		{impl.StewSweeper, []impl.StewAct{{Service: "gone", Seen: 30, Ends: endsSeen([2]int{1, 31}, [2]int{2, 32})}, {Service: "left", Seen: 40, Drop: true}}},
		{impl.StewDrainer, nil},
	} {
		got := checkSteward(t, "whole", c.kind, actBook())
		if fmt.Sprintf("%+v", got) != fmt.Sprintf("%+v", c.want) {
			t.Errorf("steward %d asks for %+v, not %+v", c.kind, got, c.want)
		}
	}
	got := checkSteward(t, "whole", impl.StewDrainer, crewBook(2, 1, 0, "r", "rd"))
	if want := []impl.StewAct{{Service: "web", Seen: 7, Ends: endsSeen([2]int{2, 101})}}; fmt.Sprintf("%+v", got) != fmt.Sprintf("%+v", want) {
		t.Errorf("the drainer asks for %+v, not %+v", got, want)
	}
}

func TestStewAskKinds(t *testing.T) {
	for _, kind := range []int{math.MinInt, math.MinInt + 1, math.MinInt32, -7, -6, -3, -1, 0, 7, 8, 9, 100, 1 << 32, 1<<32 + 1, 1<<32 + 6, math.MaxInt - 1, math.MaxInt} {
		for _, b := range []impl.StewBook{{}, fullBook(), actBook(), crewBook(2, 1, 0, "r", "rd")} {
			if got := impl.StewAsk(kind, b); len(got) > 0 {
				t.Errorf("steward %d asks for %+v", kind, got)
			}
		}
	}
	if impl.StewCounter != 1 || impl.StewWaver != 2 || impl.StewMender != 3 || impl.StewScaler != 4 || impl.StewSweeper != 5 || impl.StewDrainer != 6 {
		t.Error("the kinds are others")
	}
}

// manyServices are the eight that there may be, of which those with these places have the copies and wants of a book with one service, and the others have all that is wanted of them.
func manyServices(one impl.StewBook, places ...int) impl.StewBook {
	names := []string{"-", "a", "a-", "a-1", "aa", "b", "web", "web-2"}
	b := impl.StewBook{Now: one.Now, Berths: one.Berths}
	for i, name := range names {
		from := crewBook(2, 1, 1, "r", "r")
		if slices.Contains(places, i) {
			from = cloneBook(one)
		}
		s := from.Services[0]
		s.Name, s.Version = name, 10+i
		b.Services = append(b.Services, s)
		for _, c := range from.Copies {
			c.Service, c.Version = name, c.Version+10*i
			b.Copies = append(b.Copies, c)
		}
	}
	return b
}

// Of many services those alone are told that something is asked for of, in order, each by its own name.
func TestStewAskOfManyServices(t *testing.T) {
	scaled := crewBook(2, 1, 1, "r", "r")
	scaled.Services[0].Per, scaled.Services[0].Most, scaled.Services[0].Load = 10, 5, 45
	for kind, one := range map[int]impl.StewBook{
		impl.StewCounter: crewBook(3, 1, 1, "r", "r"),
		impl.StewWaver:   crewBook(2, 1, 1, "ro", "r", "r"),
		impl.StewMender:  crewBook(2, 1, 1, "f", "r", "f"),
		impl.StewScaler:  scaled,
		impl.StewSweeper: goneBook("r", "s", "we"),
		impl.StewDrainer: crewBook(2, 1, 1, "r", "rd", "rd"),
	} {
		for _, places := range [][]int{{}, {0}, {3}, {7}, {0, 7}, {1, 2, 3}, {0, 2, 4, 6}, {0, 1, 2, 3, 4, 5, 6, 7}} {
			b := manyServices(one, places...)
			checkValidBook(t, "many services", b, "")
			acts := checkSteward(t, "many services", kind, b)
			if len(acts) != len(places) {
				t.Fatalf("steward %d, places %v: %+v", kind, places, acts)
			}
			for i, at := range places {
				if a := acts[i]; a.Service != b.Services[at].Name || a.Seen != 10+at {
					t.Errorf("steward %d, places %v: %+v at %d", kind, places, a, i)
				}
			}
		}
	}
	empty := impl.StewBook{Now: 3, Services: servicesCalled("a", "b", "c")}
	empty.Services[1].Gone = true
	if got := askedOf(t, "no copies", empty); got != "1 a +3, 1 c +3, 5 b drop" {
		t.Errorf("no copies: %q", got)
	}
}

func TestStewAskNotValid(t *testing.T) {
	check := func(what string, b impl.StewBook) {
		t.Helper()
		for kind := -1; kind <= 8; kind++ {
			if got := impl.StewAsk(kind, b); len(got) > 0 {
				t.Errorf("%s: steward %d asks for %+v of %+v", what, kind, got, b)
			}
		}
	}
	for _, c := range bookNumbers() {
		for _, n := range []int{math.MinInt, c.least - 1, c.most + 1, math.MaxInt} {
			b := fullBook()
			*c.of(&b) = n
			check(fmt.Sprint(c.what, " ", n), b)
		}
	}
	for what, b := range brokenBooks() {
		check(what, b)
	}
	for what, b := range map[string]impl.StewBook{"services": greatBook(9, 200, 6), "copies": greatBook(8, 201, 6), "berths": greatBook(8, 200, 7)} {
		check("too many "+what, b)
	}
	inGoodTime(t, "lists that are far too long", func() {
		b := fullBook()
		b.Copies = slices.Repeat(b.Copies, 20000)
		for range 20 {
			check("copies", b)
		}
	})
}

// crewKinds are all letters for copies that are Live, by what counts for the first to end: each time a reason is held by those in the first half alone.
func crewKinds() [8][]string {
	return [8][]string{
		{"fod", "sod"}, {"wo", "so", "fo"}, {"sd", "fd"}, {"w", "s", "f"},
		{"rod"}, {"ro"}, {"rd"}, {"r"},
	}
}

// The first to end of two: not ready ahead of ready; then old; then on a berth to be drained; then the greatest Number. Places in crewKinds have these as binary digits.
func TestStewAskFirstToEnd(t *testing.T) {
	kinds := crewKinds()
	pairs := 0
	for i, ones := range kinds {
		for j, others := range kinds {
			for _, one := range ones {
				for _, other := range others {
					for _, ending := range [][]string{nil, {"sode"}, {"fode", "wode", "re", "rode"}} {
						pairs++
						want := " -1"
						if j <= i { // alike, the greater Number
							want = " -2"
						}
						crew := append([]string{one, other}, ending...)
						if got := onlyAsked(t, "a pair", impl.StewCounter, crewBook(1, 10, 0, crew...)); got != want {
							t.Errorf("%v: the counter asks for %q", crew, got)
						}
						if isOld := func(i int) bool { return i == 0 || i == 1 || i == 4 || i == 5 }; isOld(i) && isOld(j) {
							if got := onlyAsked(t, "a pair", impl.StewWaver, crewBook(1, 10, 1, crew...)); got != want {
								t.Errorf("%v: the waver asks for %q", crew, got)
							}
						}
						if drained := func(i int) bool { return i == 2 || i == 6 }; drained(i) && drained(j) {
							if got := onlyAsked(t, "a pair", impl.StewDrainer, crewBook(1, 10, 1, crew...)); got != want {
								t.Errorf("%v: the drainer asks for %q", crew, got)
							}
						}
					}
				}
			}
		}
	}
	if pairs != 3*14*14 {
		t.Errorf("%d pairs", pairs)
	}
}

// The same of many: with one of each kind, in any place, those that are first go one after the other.
func TestStewAskFirstToEndOfMany(t *testing.T) {
	all := []string{"fod", "so", "sd", "w", "rod", "ro", "rd", "r"}
	for shift := range all {
		crew := append(slices.Clone(all[shift:]), all[:shift]...)
		b := crewBook(0, 10, 0, crew...)
		for _, kind := range all {
			want := fmt.Sprint(" -", slices.Index(crew, kind)+1)
			if got := onlyAsked(t, "many", impl.StewCounter, b); got != want {
				t.Fatalf("%v: %q, not %q (%s)", crew, got, want, kind)
			}
			b, _ = impl.StewApply(b, impl.StewAsk(impl.StewCounter, b)[0])
		}
		if got := onlyAsked(t, "many", impl.StewCounter, b); got != "" {
			t.Errorf("%v: %q", crew, got)
		}
	}
	// Of those that are alike the greatest Number, also where numbers have more digits.
	b := crewBook(1, 1, 0, crewOf(12, "r")...)
	b.Services[0].Next = 1000000
	b.Copies[11].Number = 999999
	for _, want := range []string{" -999999", " -11", " -10", " -9", " -8"} {
		acts := checkSteward(t, "alike", impl.StewCounter, b)
		if len(acts) != 1 || doneBy(acts[0]) != want {
			t.Fatalf("%+v, not %s", acts, want)
		}
		b, _ = impl.StewApply(b, acts[0])
	}
}

// The first to end is by the copy's own berth and by its own service's image.
func TestStewAskOldAndDrainedOfWhat(t *testing.T) {
	b := manyServices(crewBook(0, 5, 0, "r", "r", "r", "r"), 0, 3)
	b.Services[0].Image, b.Services[3].Image = 5, 6
	b.Berths = []impl.StewBerth{{Name: "a"}, {Name: "b", Drain: true}, {Name: "c"}, {Name: "d", Drain: true}, {Name: "web"}}
	for i := range b.Copies {
		c := &b.Copies[i]
		if c.Service == "-" {
			c.Image = []int{5, 6, 5, 5}[c.Number-1]
		}
		if c.Service == "a-1" {
			c.Image, c.Berth = 6, []string{"a", "c", "d", "web"}[c.Number-1]
		}
	}
	if got := askedOf(t, "of what", b); got != "1 - -2, 1 a-1 -3, 2 - -2, 6 a-1 -3" {
		t.Errorf("%q", got)
	}
}

// crewGrid calls for services of all small sizes: so many copies that are to be replaced, new ones that are ready, and new ones that start; and each Want, Down and Over.
func crewGrid(old string, call func(b impl.StewBook, n gridSize)) {
	for olds := range 4 {
		for ready := range 4 {
			for starting := range 3 {
				for want := range 6 {
					for spare := 1; spare < 9; spare++ {
						n := gridSize{olds, ready, starting, want, spare / 3, spare % 3}
						call(crewBook(want, n.down, n.over, crewOf(olds, old, ready, "r", starting, "s")...), n)
					}
				}
			}
		}
	}
}

type gridSize struct{ olds, ready, starting, want, down, over int }

func (n gridSize) live() int { return n.olds + n.ready + n.starting }

// replacement is what the waver and the drainer ask for in a book of the grid: those that are to be replaced have the first numbers, and are all ready.
func (n gridSize) replacement() string {
	switch {
	case n.olds == 0 || n.live() < n.want:
		return ""
	case n.live() < n.want+n.over:
		return " +1"
	case n.olds+n.ready-1 >= n.want-n.down:
		return fmt.Sprint(" -", n.olds)
	}
	return ""
}

// count is what the counter asks for there: those that start have the last numbers, and end first.
func (n gridSize) count() string {
	switch {
	case n.live() < n.want:
		return fmt.Sprint(" +", n.want-n.live())
	case n.live() == n.want || n.olds > 0 && n.live() <= n.want+n.over:
		return ""
	case n.starting == 0 && n.olds > 0:
		return fmt.Sprint(" -", n.olds)
	}
	return fmt.Sprint(" -", n.live())
}

func TestStewAskGrid(t *testing.T) {
	met := map[string]int{}
	for old, kind := range map[string]int{"ro": impl.StewWaver, "rd": impl.StewDrainer, "rod": impl.StewWaver} {
		crewGrid(old, func(b impl.StewBook, n gridSize) {
			what := fmt.Sprintf("%s: %+v", old, n)
			for k, want := range map[int]string{impl.StewCounter: n.count(), kind: n.replacement(), impl.StewWaver + impl.StewDrainer - kind: ""} {
				got := onlyAsked(t, what, k, b)
				if got != want {
					t.Errorf("%s: steward %d asks for %q, not %q", what, k, got, want)
				}
				met[fmt.Sprint(k, " ", got)]++
			}
			b.Services[0].Gone = true
			for _, k := range []int{impl.StewCounter, impl.StewWaver, impl.StewScaler, impl.StewDrainer} {
				if got := onlyAsked(t, what, k, b); got != "" {
					t.Errorf("%s: steward %d asks for %q of a service that is Gone", what, k, got)
				}
			}
		})
	}
	for _, k := range []int{impl.StewWaver, impl.StewDrainer} {
		for _, asked := range []string{"", " +1", " -1", " -2", " -3"} {
			if met[fmt.Sprint(k, " ", asked)] < 20 {
				t.Errorf("steward %d: the grid tells too little: %v", k, met)
			}
		}
	}
}

func TestStewAskCounter(t *testing.T) {
	for _, c := range []struct {
		book impl.StewBook
		want string
	}{
		// Below Want, whatever else there is.
		{crewBook(10, 1, 0), " +10"}, {crewBook(10, 0, 10), " +10"}, {crewBook(3, 1, 0, "r", "w"), " +1"},
		{crewBook(3, 1, 1, "ro", "rd"), " +1"}, {crewBook(3, 1, 1, "r", "r", "re", "re"), " +1"}, {crewBook(3, 1, 1, "f", "f"), " +1"},
		// Just Want.
		{crewBook(3, 1, 1, "r", "r", "r"), ""}, {crewBook(3, 1, 0, "f", "w", "sod"), ""}, {crewBook(0, 1, 1, "re"), ""}, {crewBook(10, 1, 0, crewOf(10, "ro")...), ""},
		// One more, and none is replaced: Over does not count.
		{crewBook(3, 1, 0, "r", "r", "r", "r"), " -4"}, {crewBook(3, 1, 1, "r", "r", "r", "r"), " -4"}, {crewBook(3, 0, 10, "r", "r", "r", "r"), " -4"},
		{crewBook(3, 0, 2, "r", "s", "r", "r"), " -2"}, {crewBook(0, 1, 10, "r"), " -1"},
		// While one is old, or on a berth that is to be drained, up to Want and Over together; what is Ending is neither.
		{crewBook(3, 1, 1, "r", "ro", "r", "r"), ""}, {crewBook(3, 1, 1, "r", "rd", "r", "r"), ""}, {crewBook(3, 1, 1, "r", "rod", "r", "w"), ""},
		{crewBook(3, 1, 1, "r", "r", "r", "r", "roe", "rde"), " -4"},
		{crewBook(3, 1, 2, "r", "rd", "r", "r", "r"), ""}, {crewBook(0, 0, 2, "ro", "rd"), ""},
		// Beyond these: the first to end, of all.
		{crewBook(3, 1, 1, "r", "ro", "r", "r", "r"), " -2"}, {crewBook(3, 1, 1, "r", "rd", "r", "r", "r"), " -2"},
		{crewBook(3, 1, 1, "r", "rd", "ro", "r", "r"), " -3"}, {crewBook(3, 1, 1, "r", "ro", "rd", "w", "r"), " -4"},
		{crewBook(3, 1, 0, "ro", "r", "r", "r"), " -1"}, {crewBook(3, 0, 1, "ro", "ro", "rd", "r", "r"), " -2"},
		{crewBook(0, 10, 0, "ro"), " -1"}, {crewBook(0, 0, 1, "ro", "ro"), " -2"},
		{crewBook(10, 0, 10, crewOf(20, "ro")...), ""}, {crewBook(10, 0, 10, crewOf(21, "ro")...), " -21"},
		// One at a time.
		{crewBook(1, 1, 0, crewOf(9, "r")...), " -9"}, {crewBook(0, 1, 1, crewOf(5, "f")...), " -5"},
		{goneBook(), ""}, {goneBook("r"), ""}, {goneBook("r", "r", "r", "r", "r", "r"), ""},
	} {
		if got := onlyAsked(t, "the counter", impl.StewCounter, c.book); got != c.want {
			t.Errorf("%+v: %q, not %q", c.book, got, c.want)
		}
	}
}

// The first to end of more than Want may always end: what is not ready may, and if all are ready, Want of the others are. So Want and Down do not hold the counter back.
func TestStewAskCounterMayAlwaysEnd(t *testing.T) {
	for live := 1; live <= 12; live++ {
		for ready := range live + 1 {
			for want := range min(live, 11) {
				for _, spare := range [][2]int{{0, 1}, {1, 0}, {10, 10}} {
					b := crewBook(want, spare[0], spare[1], crewOf(ready, "r", live-ready, "s")...)
					if got := onlyAsked(t, "more than Want", impl.StewCounter, b); got != fmt.Sprint(" -", live) {
						t.Fatalf("%+v: %q", b, got)
					}
				}
			}
		}
	}
}

func TestStewAskWaver(t *testing.T) {
	for _, c := range []struct {
		book impl.StewBook
		want string
	}{
		// None is old, or only what is Ending.
		{crewBook(2, 1, 1, "r", "r"), ""}, {crewBook(2, 1, 1, "r", "r", "roe"), ""}, {crewBook(2, 1, 1, "rd", "rd"), ""}, {crewBook(2, 1, 1), ""},
		// Below Want the counter is first.
		{crewBook(2, 1, 1, "ro"), ""}, {crewBook(3, 3, 0, "ro", "ro"), ""}, {crewBook(2, 1, 1, "ro", "re"), ""},
		// Up to Want and Over together.
		{crewBook(2, 1, 1, "ro", "r"), " +1"}, {crewBook(2, 0, 2, "ro", "ro", "w"), " +1"}, {crewBook(2, 10, 2, "ro", "ro", "fo"), " +1"}, {crewBook(0, 0, 2, "ro"), " +1"},
		{crewBook(1, 0, 10, crewOf(10, "ro")...), " +1"}, {crewBook(1, 0, 10, crewOf(11, "ro")...), " -11"},
		{crewBook(2, 1, 1, "ro", "r", "re", "re"), " +1"},
		// An Over of 0 never lets more come.
		{crewBook(2, 1, 0, "ro", "ro"), " -2"}, {crewBook(2, 1, 0, "ro", "r"), " -1"}, {crewBook(0, 1, 0, "ro"), " -1"},
		// None of the old ones may end.
		{crewBook(2, 0, 1, "ro", "ro", "w"), ""}, {crewBook(2, 0, 1, "ro", "r", "f"), ""}, {crewBook(3, 1, 0, "ro", "s", "r"), ""},
		{crewBook(2, 0, 1, "ro", "ro", "s", "re", "re"), ""},
		// One of them may, all may.
		{crewBook(2, 0, 1, "ro", "so", "r"), " -2"}, {crewBook(2, 0, 1, "ro", "fo", "ro", "w"), " -2"}, {crewBook(2, 0, 1, "ro", "ro", "r"), " -2"},
		{crewBook(2, 1, 1, "ro", "ro", "w"), " -2"}, {crewBook(2, 0, 1, "ro", "rod", "ro"), " -2"}, {crewBook(2, 0, 1, "wo", "so", "rod"), " -2"},
		// What is not old is left alone, though it would end first.
		{crewBook(2, 0, 1, "ro", "w", "r", "r"), " -1"}, {crewBook(2, 0, 1, "rd", "rd", "ro"), " -3"}, {crewBook(2, 2, 1, "f", "ro", "s"), " -2"},
		// More than Want and Over together.
		{crewBook(1, 0, 1, "r", "ro", "ro", "r"), " -3"}, {crewBook(1, 0, 1, "ro", "w", "w"), ""},
		{goneBook("ro", "r"), ""}, {goneBook("ro", "ro", "ro"), ""},
	} {
		if got := onlyAsked(t, "the waver", impl.StewWaver, c.book); got != c.want {
			t.Errorf("%+v: %q, not %q", c.book, got, c.want)
		}
	}
}

func TestStewAskDrainer(t *testing.T) {
	for _, c := range []struct {
		book impl.StewBook
		want string
	}{
		// None is on such a berth, or only what is Ending.
		{crewBook(2, 1, 1, "r", "r"), ""}, {crewBook(2, 1, 1, "r", "r", "rde"), ""}, {crewBook(2, 1, 1, "w", "w"), ""}, {crewBook(2, 1, 1), ""},
		// While one is old the waver is first; what is Ending is not old.
		{crewBook(2, 1, 1, "rd", "ro"), ""}, {crewBook(2, 1, 1, "rod", "rd"), ""}, {crewBook(2, 1, 0, "rd", "rd", "wo"), ""},
		{crewBook(2, 1, 1, "rd", "rd", "roe"), " +1"}, {crewBook(2, 1, 0, "rd", "rd", "roe"), " -2"},
		// Below Want the counter is first.
		{crewBook(2, 1, 1, "rd"), ""}, {crewBook(3, 3, 0, "rd", "rd"), ""}, {crewBook(2, 1, 1, "rd", "re"), ""},
		// Up to Want and Over together.
		{crewBook(2, 1, 1, "rd", "r"), " +1"}, {crewBook(2, 0, 2, "rd", "rd", "w"), " +1"}, {crewBook(2, 10, 2, "rd", "rd", "fd"), " +1"}, {crewBook(0, 0, 2, "rd"), " +1"},
		{crewBook(1, 0, 10, crewOf(10, "rd")...), " +1"}, {crewBook(1, 0, 10, crewOf(11, "rd")...), " -11"},
		{crewBook(2, 1, 1, "rd", "r", "re", "re"), " +1"},
		// An Over of 0 never lets more come.
		{crewBook(2, 1, 0, "rd", "rd"), " -2"}, {crewBook(2, 1, 0, "rd", "r"), " -1"}, {crewBook(0, 1, 0, "rd"), " -1"},
		// None of these may end.
		{crewBook(2, 0, 1, "rd", "rd", "w"), ""}, {crewBook(2, 0, 1, "rd", "r", "f"), ""}, {crewBook(3, 1, 0, "rd", "s", "r"), ""},
		// One of them may, all may.
		{crewBook(2, 0, 1, "rd", "sd", "r"), " -2"}, {crewBook(2, 0, 1, "rd", "fd", "rd", "w"), " -2"}, {crewBook(2, 0, 1, "rd", "rd", "r"), " -2"},
		{crewBook(2, 1, 1, "rd", "rd", "w"), " -2"}, {crewBook(2, 0, 1, "sd", "fd", "rd"), " -2"},
		// What is elsewhere is left alone, though it would end first.
		{crewBook(2, 0, 1, "rd", "w", "r", "r"), " -1"}, {crewBook(2, 2, 1, "f", "rd", "s"), " -2"},
		// More than Want and Over together.
		{crewBook(1, 0, 1, "r", "rd", "rd", "r"), " -3"}, {crewBook(1, 0, 1, "rd", "w", "w"), ""},
		{goneBook("rd", "r"), ""}, {goneBook("rd", "rd", "rd"), ""},
	} {
		if got := onlyAsked(t, "the drainer", impl.StewDrainer, c.book); got != c.want {
			t.Errorf("%+v: %q, not %q", c.book, got, c.want)
		}
	}
	// Whether a berth is to be drained is its own matter, whatever it is called and wherever it stands.
	for drained := range 3 {
		b := crewBook(3, 1, 0, "r", "r", "r")
		b.Berths = []impl.StewBerth{{Name: "-"}, {Name: "a"}, {Name: "web"}}
		b.Berths[drained].Drain = true
		for i := range b.Copies {
			b.Copies[i].Berth = b.Berths[i].Name
		}
		if got := onlyAsked(t, "the drainer", impl.StewDrainer, b); got != fmt.Sprint(" -", drained+1) {
			t.Errorf("berth %d: %q", drained, got)
		}
	}
}

func TestStewAskMender(t *testing.T) {
	for _, c := range []struct {
		crew []string
		want string
	}{
		{nil, ""}, {crewOf(1, "r", 1, "w", 1, "s", 1, "ro", 1, "rd"), ""}, {[]string{"fe"}, ""}, {crewOf(3, "fe", 2, "r"), ""},
		{[]string{"f"}, " -1"}, {[]string{"r", "f"}, " -2"}, {[]string{"f", "f", "f"}, " -1 -2 -3"}, {[]string{"f", "fe", "fo", "r", "fd", "fode", "fod"}, " -1 -3 -5 -7"},
	} {
		for _, gone := range []bool{false, true} {
			for _, spare := range [][3]int{{0, 0, 1}, {10, 0, 1}, {3, 10, 0}} {
				b := crewBook(spare[0], spare[1], spare[2], c.crew...)
				b.Services[0].Gone = gone
				if got := onlyAsked(t, "the mender", impl.StewMender, b); got != c.want {
					t.Errorf("%v, gone %v: %q, not %q", c.crew, gone, got, c.want)
				}
			}
		}
	}
}

func TestStewAskSweeper(t *testing.T) {
	for _, c := range []struct {
		crew []string
		want string
	}{
		{nil, " drop"}, {[]string{"re"}, ""}, {[]string{"we", "se", "rode", "fe"}, ""},
		{[]string{"r"}, " -1"}, {[]string{"w", "s", "r", "f", "ro", "rd"}, " -1 -2 -3 -4 -5 -6"}, {[]string{"re", "r", "we", "w"}, " -2 -4"}, {[]string{"r", "re"}, " -1"},
	} {
		for _, spare := range [][3]int{{0, 0, 1}, {10, 0, 1}, {1, 10, 0}} {
			b := crewBook(spare[0], spare[1], spare[2], c.crew...)
			if got := onlyAsked(t, "the sweeper", impl.StewSweeper, b); got != "" {
				t.Errorf("%v: %q of a service that is wanted", c.crew, got)
			}
			b.Services[0].Gone = true
			if got := onlyAsked(t, "the sweeper", impl.StewSweeper, b); got != c.want {
				t.Errorf("%v: %q, not %q", c.crew, got, c.want)
			}
		}
	}
}

// loadBook has one service that follows its load.
func loadBook(per, least, most, load, want, cool int) impl.StewBook {
	b := crewBook(want, 1, 1)
	s := &b.Services[0]
	s.Per, s.Least, s.Most, s.Load, s.Cool = per, least, most, load, cool
	return b
}

func TestStewAskScaler(t *testing.T) {
	for _, c := range []struct {
		book impl.StewBook
		want string
	}{
		{crewBook(3, 1, 1), ""}, {crewBook(0, 1, 1), ""}, {crewBook(10, 1, 1), ""}, // they have no Per
		// As many as bear the load, rounded up.
		{loadBook(10, 0, 10, 0, 0, 0), ""}, {loadBook(10, 0, 10, 1, 0, 0), " =1/0"}, {loadBook(10, 0, 10, 9, 0, 0), " =1/0"}, {loadBook(10, 0, 10, 10, 0, 0), " =1/0"},
		{loadBook(10, 0, 10, 11, 0, 0), " =2/0"}, {loadBook(10, 0, 10, 19, 2, 0), ""}, {loadBook(10, 0, 10, 20, 2, 0), ""}, {loadBook(10, 0, 10, 21, 2, 0), " =3/0"},
		{loadBook(1, 0, 10, 10, 10, 0), ""}, {loadBook(1, 0, 10, 9, 8, 0), " =9/0"}, {loadBook(1000000, 0, 10, 1000000, 0, 0), " =1/0"}, {loadBook(1000000, 0, 10, 1, 0, 0), " =1/0"}, {loadBook(1, 0, 10, 1000000, 0, 0), " =10/0"},
		{loadBook(999999, 0, 10, 1000000, 0, 0), " =2/0"},
		// Not above Most, nor below Least.
		{loadBook(10, 1, 5, 50, 3, 0), " =5/0"}, {loadBook(10, 1, 5, 51, 3, 0), " =5/0"}, {loadBook(10, 1, 5, 1000000, 5, 0), ""}, {loadBook(10, 1, 5, 49, 3, 0), " =5/0"}, {loadBook(10, 1, 5, 40, 3, 0), " =4/0"},
		{loadBook(10, 2, 5, 0, 2, 0), ""}, {loadBook(10, 2, 5, 19, 2, 0), ""}, {loadBook(10, 2, 5, 20, 2, 0), ""}, {loadBook(10, 2, 5, 0, 3, 0), " =3/1"},
		{loadBook(10, 3, 3, 0, 3, 0), ""}, {loadBook(10, 3, 3, 1000, 3, 0), ""}, {loadBook(10, 0, 0, 1000, 0, 0), ""}, {loadBook(10, 0, 0, 1000, 0, 3), " =0/0"},
		// More at once, whatever Cool is.
		{loadBook(10, 1, 9, 90, 1, 1), " =9/0"}, {loadBook(10, 1, 9, 90, 1, 3), " =9/0"}, {loadBook(10, 1, 9, 20, 1, 2), " =2/0"},
		// Less one by one, and late.
		{loadBook(10, 1, 9, 10, 5, 0), " =5/1"}, {loadBook(10, 1, 9, 10, 5, 1), " =5/2"}, {loadBook(10, 1, 9, 10, 5, 2), " =5/3"}, {loadBook(10, 1, 9, 10, 5, 3), " =4/0"},
		{loadBook(10, 0, 9, 0, 1, 3), " =0/0"}, {loadBook(10, 0, 10, 90, 10, 3), " =9/0"}, {loadBook(10, 0, 10, 90, 10, 2), " =10/3"},
		// Just that.
		{loadBook(10, 1, 9, 50, 5, 1), " =5/0"}, {loadBook(10, 1, 9, 50, 5, 3), " =5/0"}, {loadBook(10, 1, 9, 50, 5, 0), ""},
		// A Want that is outside comes to the nearer end, with whatever Cool and load.
		{loadBook(10, 2, 5, 0, 0, 0), " =2/0"}, {loadBook(10, 2, 5, 0, 1, 3), " =2/0"}, {loadBook(10, 2, 5, 1000, 1, 0), " =2/0"}, {loadBook(10, 2, 5, 30, 0, 2), " =2/0"},
		{loadBook(10, 2, 5, 0, 6, 0), " =5/0"}, {loadBook(10, 2, 5, 0, 10, 3), " =5/0"}, {loadBook(10, 2, 5, 1000, 6, 0), " =5/0"}, {loadBook(10, 2, 5, 1000, 10, 1), " =5/0"}, {loadBook(10, 2, 5, 30, 6, 3), " =5/0"},
		{loadBook(10, 0, 0, 0, 1, 3), " =0/0"}, {loadBook(10, 10, 10, 0, 9, 3), " =10/0"},
	} {
		for _, gone := range []bool{false, true} {
			c.book.Services[0].Gone = gone
			if gone {
				c.want = ""
			}
			if got := onlyAsked(t, "the scaler", impl.StewScaler, c.book); got != c.want {
				t.Errorf("%+v: %q, not %q", c.book.Services[0], got, c.want)
			}
		}
	}
}

func TestStewAskScalerGrid(t *testing.T) {
	t.Parallel()
	met := map[string]int{}
	for _, per := range []int{1, 2, 7, 1000000} {
		for most := range 11 {
			for least := range most + 1 {
				for _, load := range []int{0, 1, 2, per - 1, per, per + 1, 3*per - 1, 3 * per, 3*per + 1, 10 * per, 1000000} {
					for want := range 11 {
						for cool := range 4 {
							b := loadBook(per, least, most, min(load, 1000000), want, cool)
							met[onlyAsked(t, "the scaler", impl.StewScaler, b)]++
						}
					}
				}
			}
		}
		if t.Failed() {
			return
		}
	}
	for want := range 11 {
		for cool := range 4 {
			if met[fmt.Sprintf(" =%d/%d", want, cool)] == 0 && (want > 0 || cool == 0) {
				t.Errorf("want %d and cool %d were not met", want, cool)
			}
		}
	}
}

// How many copies there are is not the scaler's matter, nor is the load that of the others.
func TestStewAskLoadAndCountApart(t *testing.T) {
	for _, crew := range [][]string{nil, {"r"}, {"r", "r", "r"}, {"ro", "fd", "we"}, crewOf(20, "r")} {
		b := loadBook(10, 1, 9, 45, 3, 2)
		b.Services[0].Next = len(crew) + 1
		b.Copies = crewBook(3, 1, 1, crew...).Copies
		if got := onlyAsked(t, "the scaler", impl.StewScaler, b); got != " =5/0" {
			t.Errorf("%v: %q", crew, got)
		}
		for _, kind := range []int{impl.StewCounter, impl.StewWaver, impl.StewMender, impl.StewSweeper, impl.StewDrainer} {
			if with, without := onlyAsked(t, "with a load", kind, b), onlyAsked(t, "without", kind, crewBook(3, 1, 1, crew...)); with != without {
				t.Errorf("%v: steward %d asks for %q with a load, and %q without", crew, kind, with, without)
			}
		}
	}
}

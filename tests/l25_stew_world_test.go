package tests

import (
	"fmt"
	"maps"
	"math"
	"slices"
	"strings"
	"testing"

	"loop.example/wharffleet/impl"
)

// stewTale is a world to which one move is done behind the other, each held against the second reading.
type stewTale struct {
	t *testing.T
	w impl.StewWorld
}

func (x *stewTale) does(m impl.StewMove, codes ...int) {
	x.t.Helper()
	next, got := checkMove(x.t, "in a tale", x.w, m)
	if !slices.Equal(got, codes) {
		x.t.Errorf("%+v has codes %v, not %v: %+v", m, got, codes, x.w.Book)
	}
	x.w = next
}

func (x *stewTale) sea(code int, e impl.StewEvent) {
	x.t.Helper()
	x.does(impl.StewMove{Event: e}, code)
}

func (x *stewTale) tick() {
	x.t.Helper()
	x.sea(0, impl.StewEvent{Kind: impl.StewTick})
}

func (x *stewTale) wish(image, want, down, over int) {
	x.t.Helper()
	x.sea(0, wishOf(impl.StewService{Name: "a", Image: image, Want: want, Down: down, Over: over}))
}

func (x *stewTale) looks(steward, age int, codes ...int) {
	x.t.Helper()
	x.does(impl.StewMove{Steward: steward, Age: age}, codes...)
}

// is asks for the Nows and for the copies of the Book, as seaText tells them.
func (x *stewTale) is(nows, copies string) {
	x.t.Helper()
	if got := nowsOf(x.w); got != nows {
		x.t.Errorf("the Nows are %q, not %q", got, nows)
	}
	if got := seaText(x.w.Book); got != copies {
		x.t.Errorf("the copies are %q, not %q", got, copies)
	}
}

func TestStewDoInTurn(t *testing.T) {
	x := &stewTale{t: t}
	x.is("| 0", "")
	x.looks(impl.StewCounter, 0)
	x.is("| 0", "")
	x.sea(0, impl.StewEvent{Kind: impl.StewRaise, Name: "x"})
	x.is("0 | 1", "")
	x.sea(3, impl.StewEvent{Kind: impl.StewSink, Name: "y"})
	x.is("0 | 1", "")
	x.wish(1, 2, 1, 0)
	x.is("0 1 | 2", "")
	x.looks(impl.StewCounter, 1) // who sees no service yet
	x.looks(impl.StewCounter, 0, 0)
	x.is("0 1 2 | 3", "a1w* a2w*")
	x.looks(impl.StewCounter, 1, 4) // who sees that there are none
	x.looks(impl.StewCounter, 0)
	x.is("0 1 2 | 3", "a1w* a2w*")
	x.tick()
	x.tick()
	x.is("0 1 2 3 4 | 5", "a1rx* a2rx*")
	x.wish(2, 2, 1, 0)
	x.is("0 1 2 3 4 5 | 6", "a1rx a2rx")
	x.looks(impl.StewWaver, 1) // who sees the old image wanted
	x.sea(0, impl.StewEvent{Kind: impl.StewFails, Name: "a", Number: 1})
	x.is("0 1 2 3 4 5 6 | 7", "a1fx* a2rx")
	x.looks(impl.StewWaver, 1, 5) // who sees 1 ready, and would have 2 end
	x.looks(impl.StewWaver, 0, 0)
	x.is("0 1 2 3 4 5 6 7 | 8", "a1fxe* a2rx")
	x.looks(impl.StewMender, 1, 4)
	x.looks(impl.StewMender, 0)
	x.looks(impl.StewCounter, 0, 0)
	x.is("1 2 3 4 5 6 7 8 | 9", "a1fxe a2rx a3w*")
	x.tick()
	x.is("2 3 4 5 6 7 8 9 | 10", "a2rx a3sx*")
	x.looks(impl.StewMender, 3, 3)  // who sees 1, that is gone
	x.looks(impl.StewCounter, 8, 4) // who sees the service without copies, in the first book that is remembered
	x.looks(impl.StewCounter, 99, 4)
	x.is("2 3 4 5 6 7 8 9 | 10", "a2rx a3sx*")
}

// Books that are told apart by what the counter asks for: the one at place i has i copies of ten.
func agesWorld(past int) impl.StewWorld {
	var w impl.StewWorld
	for i := range past + 1 {
		w.Past = append(w.Past, crewBook(10, 1, 10, crewOf(i, "r")...))
	}
	w.Past, w.Book = w.Past[:past], w.Past[past]
	return w
}

func TestStewDoAges(t *testing.T) {
	for past := range 9 {
		for _, age := range someAges() {
			w := agesWorld(past)
			place := past - age // of the book that is seen
			switch {
			case age < 0:
				place = past
			case age > past:
				place = 0
			}
			next, codes := checkMove(t, "ages", w, impl.StewMove{Steward: impl.StewCounter, Age: age})
			if got := len(next.Book.Copies); got != past+10-place || !slices.Equal(codes, []int{0}) {
				t.Errorf("%d past books, age %d: codes %v and %d copies: the book at %d was not seen", past, age, codes, got, place)
			}
		}
	}
}

// Of each steward, at the Book and at a book that was, all that is asked for is done.
func TestStewDoEachSteward(t *testing.T) {
	for steward, want := range map[int]string{
		impl.StewCounter: "1 db -9, 1 web +10",
		impl.StewWaver:   "2 api +1, 2 db -3",
		impl.StewMender:  "3 db -7, 3 gone -2",
		impl.StewScaler:  "4 db =3/0, 4 web =10/1",
		impl.StewSweeper: "5 gone -1 -2, 5 left drop",
		impl.StewDrainer: "6 web -2",
	} {
		seen := actBook()
		if steward == impl.StewDrainer {
			seen = crewBook(2, 1, 0, "r", "rd")
		}
		var told []string
		for _, a := range impl.StewAsk(steward, seen) {
			told = append(told, fmt.Sprint(steward, " ", a.Service, doneBy(a)))
		}
		if got := strings.Join(told, ", "); got != want {
			t.Fatalf("steward %d asks for %q", steward, got)
		}
		codes := make([]int, len(told))
		for what, w := range map[string]impl.StewWorld{
			"the Book":          {Book: seen},
			"behind another":    {Past: []impl.StewBook{{}}, Book: seen},
			"behind many":       {Past: slices.Repeat([]impl.StewBook{seen}, 8), Book: seen},
			"the Book, changed": {Past: []impl.StewBook{seen}, Book: bookAt(seen.Now+100, seen)},
		} {
			age := 0
			if what == "the Book, changed" {
				age = 1
			}
			next, got := checkMove(t, what, w, impl.StewMove{Steward: steward, Age: age})
			if !slices.Equal(got, codes) || next.Book.Now != w.Book.Now+len(codes) {
				t.Errorf("%s: steward %d has codes %v", what, steward, got)
			}
			behind := w.Book
			for _, a := range impl.StewAsk(steward, seen) {
				behind = checkCode(t, what, behind, a, 0)
			}
			if !sameBook(next.Book, behind) {
				t.Errorf("%s: steward %d leads to %+v", what, steward, next.Book)
			}
		}
	}
}

// Nothing, one act, several, as many as can be: each is a change by itself, in order, and the book as it was ahead of each is remembered.
func TestStewDoManyActs(t *testing.T) {
	for _, places := range [][]int{nil, {0}, {3}, {7}, {0, 7}, {2, 3, 4}, {0, 1, 2, 3, 4, 5, 6}, {0, 1, 2, 3, 4, 5, 6, 7}} {
		for steward, one := range map[int]impl.StewBook{
			impl.StewCounter: crewBook(2, 1, 1, "r"),
			impl.StewWaver:   crewBook(2, 1, 1, "ro", "r", "r"),
			impl.StewMender:  crewBook(2, 1, 1, "f", "r"),
			impl.StewSweeper: goneBook("r", "r"),
			impl.StewDrainer: crewBook(2, 1, 1, "rd", "r"),
		} {
			b := manyServices(one, places...)
			for _, past := range []int{0, 1, 7, 8} {
				w := impl.StewWorld{Past: slices.Repeat([]impl.StewBook{bookAt(899, b)}, past), Book: b}
				next, codes := checkMove(t, "many", w, impl.StewMove{Steward: steward})
				if !slices.Equal(codes, make([]int, len(places))) {
					t.Errorf("steward %d at %v: codes %v", steward, places, codes)
				}
				for i, place := range places {
					if s := next.Book.Services[place]; s.Version != 901+i {
						t.Errorf("steward %d at %v: %+v", steward, places, s)
					}
					ahead := next.Past[len(next.Past)-len(places)+i]
					if ahead.Now != 900+i || ahead.Services[place].Version != b.Services[place].Version {
						t.Errorf("steward %d at %v: ahead of act %d is %+v", steward, places, i, ahead)
					}
				}
				if len(places) > 0 && !sameBook(next.Past[len(next.Past)-len(places)], b) {
					t.Errorf("steward %d at %v: the book as it was is not remembered", steward, places)
				}
			}
		}
	}
}

// doneLate lets a steward look at what is seen while the book has been changed so.
func doneLate(t *testing.T, what string, steward int, seen impl.StewBook, change func(b *impl.StewBook), codes ...int) impl.StewWorld {
	t.Helper()
	b := cloneBook(seen)
	change(&b)
	w := impl.StewWorld{Past: []impl.StewBook{seen}, Book: b}
	checkStewWorldOk(t, what, w)
	next, got := checkMove(t, what, w, impl.StewMove{Steward: steward, Age: 1})
	if !slices.Equal(got, codes) {
		t.Errorf("%s: codes %v, not %v", what, got, codes)
	}
	return next
}

// copyOf is a copy of a book that has it.
func copyOf(b *impl.StewBook, service string, number int) *impl.StewCopy {
	return &b.Copies[slices.IndexFunc(b.Copies, func(c impl.StewCopy) bool { return c.Service == service && c.Number == number })]
}

func dropCopies(b *impl.StewBook, is func(c impl.StewCopy) bool) {
	b.Copies = slices.DeleteFunc(b.Copies, is)
}

func dropService(b *impl.StewBook, name string) {
	b.Services = slices.DeleteFunc(b.Services, func(s impl.StewService) bool { return s.Name == name })
	dropCopies(b, func(c impl.StewCopy) bool { return c.Service == name })
}

// Of the acts of one look some are done and some are not, with each code that can be; the codes are told in order, one for each act.
func TestStewDoCodesOfEnds(t *testing.T) {
	all := []int{0, 1, 2, 3, 4, 5, 6, 7} // of -, a, a-, a-1, aa, b, web and web-2
	seen := manyServices(crewBook(2, 1, 1, "r", "f"), all...)
	doneLate(t, "all", impl.StewMender, seen, func(b *impl.StewBook) {}, 0, 0, 0, 0, 0, 0, 0, 0)
	late := func(now int) func(b *impl.StewBook) {
		return func(b *impl.StewBook) {
			b.Now = now
			b.Services[3].Version = 9
			copyOf(b, "aa", 2).Version = 9
			copyOf(b, "b", 2).Ending = true
			copyOf(b, "web", 1).State, copyOf(b, "web", 2).State = impl.StewFailed, impl.StewReady
			dropCopies(b, func(c impl.StewCopy) bool { return c.Service == "a-" && c.Number == 2 })
			dropService(b, "a")
		}
	}
	doneLate(t, "each", impl.StewMender, seen, late(900), 0, 3, 3, 4, 4, 5, 5, 0)
	doneLate(t, "each, and one version left", impl.StewMender, seen, late(999999), 0, 3, 3, 4, 4, 5, 5, 7)
	doneLate(t, "each, and no version left", impl.StewMender, seen, late(1000000), 7, 3, 3, 4, 4, 5, 5, 7)
	for left := range 10 {
		codes := slices.Repeat([]int{7}, 8)
		clear(codes[:min(8, left)])
		next := doneLate(t, fmt.Sprint(left, " versions left"), impl.StewMender, seen, func(b *impl.StewBook) { b.Now = 1000000 - left }, codes...)
		if len(next.Past) != 1+min(7, left) {
			t.Errorf("%d versions left: %s", left, nowsOf(next))
		}
	}
}

func TestStewDoCodesOfCreates(t *testing.T) {
	all := []int{0, 1, 2, 3, 4, 5, 6, 7}
	seen := manyServices(crewBook(2, 1, 1), all...)
	doneLate(t, "all", impl.StewCounter, seen, func(b *impl.StewBook) {}, 0, 0, 0, 0, 0, 0, 0, 0)
	doneLate(t, "each", impl.StewCounter, seen, func(b *impl.StewBook) {
		b.Services[2].Version = 9
		b.Services[3].Gone = true
		b.Services[4].Next = 3
		for number := 1; number <= 2; number++ {
			b.Copies = append(b.Copies, impl.StewCopy{Service: "aa", Number: number, Version: 9, Image: 2, State: impl.StewWaiting})
		}
		b.Services[5].Next = 999999
		b.Services[6].Next = 999998
		dropService(b, "a")
	}, 0, 3, 4, 6, 6, 7, 0, 0)
	// Each act finds what those ahead of it have left: two more copies.
	for copies := 180; copies <= 200; copies++ {
		codes := make([]int, 8)
		for i := range codes {
			if copies+2*(i+1) > 200 {
				codes[i] = 7
			}
		}
		doneLate(t, fmt.Sprint("copies ", copies), impl.StewCounter, seen, func(b *impl.StewBook) {
			b.Services[7].Next = 500
			for number := 1; number <= copies; number++ {
				b.Copies = append(b.Copies, impl.StewCopy{Service: "web-2", Number: number, Version: 9, Image: 2, State: impl.StewWaiting, Ending: true})
			}
		}, codes...)
	}
}

func TestStewDoCodesOfScalesAndDrops(t *testing.T) {
	seen := loadBook(1, 0, 5, 5, 0, 0)
	for what, c := range map[string]struct {
		code   int
		change func(s *impl.StewService)
	}{
		"as it was":    {0, func(s *impl.StewService) {}},
		"a new one":    {4, func(s *impl.StewService) { s.Version++ }},
		"no load":      {6, func(s *impl.StewService) { s.Per, s.Least, s.Most, s.Load = 0, 0, 0, 0 }},
		"not so many":  {6, func(s *impl.StewService) { s.Most = 4 }},
		"not so few":   {6, func(s *impl.StewService) { s.Least, s.Most = 6, 7 }},
		"another load": {0, func(s *impl.StewService) { s.Load = 3 }},
	} {
		doneLate(t, what, impl.StewScaler, seen, func(b *impl.StewBook) { c.change(&b.Services[0]) }, c.code)
	}
	doneLate(t, "it is out", impl.StewScaler, seen, func(b *impl.StewBook) { b.Services = nil }, 3)
	doneLate(t, "at the end", impl.StewScaler, seen, func(b *impl.StewBook) { b.Now = 1000000 }, 7)

	for what, c := range map[string]struct {
		code   int
		change func(b *impl.StewBook)
	}{
		"as it was":  {0, func(b *impl.StewBook) {}},
		"out":        {3, func(b *impl.StewBook) { b.Services = nil }},
		"a new one":  {4, func(b *impl.StewBook) { b.Services[0].Version++ }},
		"wanted":     {6, func(b *impl.StewBook) { b.Services[0].Gone = false }},
		"a copy":     {6, func(b *impl.StewBook) { *b = goneBook("r") }},
		"one Ending": {6, func(b *impl.StewBook) { *b = goneBook("we") }},
		"at the end": {7, func(b *impl.StewBook) { b.Now = 1000000 }},
	} {
		doneLate(t, "a drop, "+what, impl.StewSweeper, goneBook(), c.change, c.code)
	}
}

// With a number of no steward an event happens, of each kind, whatever Age is.
func TestStewDoSea(t *testing.T) {
	for _, steward := range noStewards() {
		for _, age := range []int{math.MinInt, -1, 0, 1, 8, math.MaxInt} {
			w := impl.StewWorld{Past: []impl.StewBook{{}, bookAt(9, impl.StewBook{})}, Book: fullBook()}
			for kind, e := range seaEvents() {
				next, codes := impl.StewDo(w, impl.StewMove{Steward: steward, Age: age, Event: e})
				want, _ := modelSea(fullBook(), e)
				if !slices.Equal(codes, []int{0}) || !sameBook(next.Book, want) || nowsOf(next) != "0 9 20 | 21" || !sameBook(next.Past[2], fullBook()) {
					t.Errorf("steward %d, kind %d: codes %v, %s", steward, kind, codes, nowsOf(next))
				}
			}
			for code, events := range refusedEvents() {
				for _, e := range events {
					next, codes := impl.StewDo(w, impl.StewMove{Steward: steward, Age: age, Event: e})
					if !slices.Equal(codes, []int{code}) || !sameStewWorld(next, w) {
						t.Errorf("steward %d, %+v: codes %v, %s", steward, e, codes, nowsOf(next))
					}
				}
			}
		}
	}
	last := impl.StewWorld{Book: bookAt(1000000, fullBook())}
	for _, e := range seaEvents() {
		if next, codes := checkMove(t, "at the end", last, impl.StewMove{Event: e}); !slices.Equal(codes, []int{7}) || len(next.Past) != 0 {
			t.Errorf("%+v at the end: %v", e, codes)
		}
	}
}

// With a steward no event happens.
func TestStewDoStewardsDoNotAskForEvents(t *testing.T) {
	for steward := impl.StewCounter; steward <= impl.StewDrainer; steward++ {
		w := impl.StewWorld{Past: []impl.StewBook{fullBook()}, Book: actBook()}
		alone, codes := impl.StewDo(w, impl.StewMove{Steward: steward})
		for _, e := range append(slices.Collect(maps.Values(seaEvents())), impl.StewEvent{Kind: 99}, impl.StewEvent{Kind: impl.StewWish}) {
			next, same := checkMove(t, "an event beside it", w, impl.StewMove{Steward: steward, Event: e})
			if !slices.Equal(codes, same) || !sameStewWorld(next, alone) {
				t.Errorf("steward %d with %+v: codes %v, not %v", steward, e, same, codes)
			}
		}
	}
}

// The book as it was is put behind the past by all that is done, and by nothing else; the first is forgotten where there is no room.
func TestStewDoPast(t *testing.T) {
	x := &stewTale{t: t}
	for now, want := range []string{
		"0 | 1", "0 1 | 2", "0 1 2 | 3", "0 1 2 3 | 4", "0 1 2 3 4 | 5", "0 1 2 3 4 5 | 6", "0 1 2 3 4 5 6 | 7", "0 1 2 3 4 5 6 7 | 8", "1 2 3 4 5 6 7 8 | 9", "2 3 4 5 6 7 8 9 | 10",
	} {
		before := plainBook(x.w.Book)
		x.sea(0, impl.StewEvent{Kind: impl.StewRaise, Name: "x", Flag: now%2 == 0})
		if got := nowsOf(x.w); got != want || !sameBook(x.w.Past[len(x.w.Past)-1], before) {
			t.Errorf("%q, not %q: %+v", got, want, x.w)
		}
		x.sea(2, impl.StewEvent{Kind: impl.StewRaise, Name: "X"})
		x.sea(4, impl.StewEvent{})
		x.looks(impl.StewCounter, 0)
		x.looks(impl.StewSweeper, 9)
		if got := nowsOf(x.w); got != want {
			t.Errorf("%q, not %q: what was not done is remembered", got, want)
		}
	}
	// Eight acts at once, and there is room for eight.
	b := manyServices(crewBook(2, 1, 1, "f", "r"), 0, 1, 2, 3, 4, 5, 6, 7)
	x.w = impl.StewWorld{Past: []impl.StewBook{{}, bookAt(1, impl.StewBook{}), bookAt(2, impl.StewBook{})}, Book: b}
	x.looks(impl.StewMender, 0, 0, 0, 0, 0, 0, 0, 0, 0)
	if got := nowsOf(x.w); got != "900 901 902 903 904 905 906 907 | 908" {
		t.Error(got)
	}
	// With Nows that are equal, those that were there are kept in their order.
	w := worldOfNows(20, 20, 20, 20, 20, 20, 20, 20, 20)
	for i := range w.Past {
		w.Past[i].Berths = append(w.Past[i].Berths, impl.StewBerth{Name: fmt.Sprint("d", i)})
	}
	x.w = w
	x.tick()
	for i, old := range w.Past[1:] {
		if !sameBook(x.w.Past[i], old) {
			t.Errorf("at %d is %+v", i, x.w.Past[i])
		}
	}
	if nowsOf(x.w) != "20 20 20 20 20 20 20 20 | 21" || !sameBook(x.w.Past[7], w.Book) {
		t.Errorf("%+v", x.w)
	}
}

// One who sees late asks for what was right then, and what has changed since is not harmed.
func TestStewDoLate(t *testing.T) {
	x := &stewTale{t: t}
	x.sea(0, impl.StewEvent{Kind: impl.StewRaise, Name: "x"})
	x.wish(1, 3, 1, 0)
	x.looks(impl.StewCounter, 0, 0)
	x.tick()
	x.tick()
	x.is("0 1 2 3 4 | 5", "a1rx* a2rx* a3rx*")
	x.wish(2, 3, 1, 0)
	x.looks(impl.StewWaver, 0, 0)
	x.is("0 1 2 3 4 5 6 | 7", "a1rx a2rx a3rxe*")
	x.looks(impl.StewWaver, 1, 4) // the same view again
	x.looks(impl.StewWaver, 0)    // two must be ready
	x.tick()
	x.looks(impl.StewWaver, 2, 3) // whose 3 is gone
	x.looks(impl.StewCounter, 0, 0)
	x.looks(impl.StewCounter, 1, 4)
	x.looks(impl.StewCounter, 2, 4)
	x.is("1 2 3 4 5 6 7 8 | 9", "a1rx a2rx a4w*")
	x.sea(0, impl.StewEvent{Kind: impl.StewSink, Name: "x"})
	x.is("2 3 4 5 6 7 8 9 | 10", "a4w")
	x.looks(impl.StewCounter, 0, 0)
	x.is("3 4 5 6 7 8 9 10 | 11", "a4w a5w* a6w*")
}

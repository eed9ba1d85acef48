package tests

import (
	"fmt"
	"math"
	"slices"
	"strings"
	"testing"

	"loop.example/wharffleet/impl"
)

// turnsBook has a service for each steward, s1 to s6, that no other one changes what is asked of: so the Versions behind a round tell the order of their turns.
func turnsBook() impl.StewBook {
	b := impl.StewBook{Now: 900, Berths: []impl.StewBerth{{Name: "a"}, {Name: "b", Drain: true}}}
	add := func(s impl.StewService, copies ...impl.StewCopy) {
		s.Name, s.Version, s.Image, s.Over, s.Next = fmt.Sprint("s", len(b.Services)+1), 1, 2, 1, len(copies)+1
		b.Services = append(b.Services, s)
		for i, c := range copies {
			c.Service, c.Number, c.Version, c.Image = s.Name, i+1, 1, max(c.Image, 2)
			b.Copies = append(b.Copies, c)
		}
	}
	ready := impl.StewCopy{State: impl.StewReady, Berth: "a"}
	add(impl.StewService{Want: 1})
	add(impl.StewService{Want: 1}, impl.StewCopy{State: impl.StewReady, Image: 3, Berth: "a"})
	add(impl.StewService{Want: 1}, impl.StewCopy{State: impl.StewFailed, Berth: "a"})
	add(impl.StewService{Want: 1, Per: 1, Most: 1}, ready)
	add(impl.StewService{Gone: true}, ready)
	add(impl.StewService{Want: 1}, impl.StewCopy{State: impl.StewReady, Berth: "b"})
	return b
}

// turnsOf tells the stewards in the order in which they had their first turns. Of s3 it is the copy that ends: the counter, too, changes the service.
func turnsOf(b impl.StewBook) string {
	at := map[int]string{}
	for i, s := range b.Services {
		at[s.Version] = fmt.Sprint(i + 1)
	}
	delete(at, b.Services[2].Version)
	at[copyOf(&b, "s3", 1).Version] = "3"
	text := ""
	for version := 902; version <= 908; version++ {
		text += at[version]
	}
	return text
}

func TestStewCalmOrders(t *testing.T) {
	far := []int{math.MinInt, math.MaxInt, 0, 7, -1, 1<<32 + 2}
	for _, c := range []struct {
		order []int
		want  string
	}{
		{nil, "123456"},
		{[]int{}, "123456"},
		{[]int{1, 2, 3, 4, 5, 6}, "123456"},
		{[]int{6, 5, 4, 3, 2, 1}, "654321"},
		{[]int{1}, "123456"}, {[]int{2}, "213456"}, {[]int{3}, "312456"}, {[]int{4}, "412356"}, {[]int{5}, "512346"}, {[]int{6}, "612345"},
		{[]int{6, 1}, "612345"}, {[]int{2, 6}, "261345"}, {[]int{3, 5}, "351246"}, {[]int{5, 3, 1}, "531246"}, {[]int{6, 5, 4, 3, 2}, "654321"},
		{far, "123456"},
		{append(slices.Clone(far), 4), "412356"},
		{append([]int{4}, far...), "412356"},
		{[]int{9, 0, 3, 3}, "312456"},
		{[]int{3, 3, 3, 3, 3, 3, 3, 3}, "312456"},
		{[]int{3, 2, 3, 2, 5, 3}, "325146"},
		{[]int{6, 6, 5, 0, 5, 4, 7, 4, 3, -3, 3, 2, 2, 1, 1}, "654321"},
		{[]int{0, 1, 2, 3, 4, 5, 6, 7, 6, 5, 4, 3, 2, 1, 0}, "123456"},
		{[]int{-1, -2, -3, -4, -5, -6}, "123456"},
	} {
		for rounds, turns := range map[int]string{0: "", 1: c.want} {
			next := checkStewCalm(t, "orders", impl.StewWorld{Book: turnsBook()}, rounds, c.order...)
			if got := turnsOf(next.Book); got != turns {
				t.Errorf("%v: %q, not %q: %+v", c.order, got, turns, next.Book)
			}
		}
	}
}

// All orders of all six.
func TestStewCalmEachOrder(t *testing.T) {
	t.Parallel()
	met := map[string]bool{}
	var draw func(order []int)
	draw = func(order []int) {
		for n := 1; n <= 6; n++ {
			if !slices.Contains(order, n) {
				draw(append(slices.Clone(order), n))
			}
		}
		if len(order) == 6 {
			next := impl.StewCalm(impl.StewWorld{Book: turnsBook()}, 1, order)
			want := strings.Trim(strings.ReplaceAll(fmt.Sprint(order), " ", ""), "[]")
			if got := turnsOf(next.Book); got != want {
				t.Errorf("%q, not %q", got, want)
			}
			met[want] = true
		}
	}
	draw(nil)
	if len(met) != 720 {
		t.Errorf("%d orders", len(met))
	}
}

// The order is the same in each round.
func TestStewCalmEachRound(t *testing.T) {
	for _, order := range [][]int{nil, {6, 5, 4, 3, 2, 1}, {3, 1, 9, 3}, {1, 3}} {
		w := impl.StewWorld{Book: turnsBook()}
		byMoves := w
		for rounds := 1; rounds <= 12; rounds++ {
			for _, m := range modelRound(order) {
				byMoves, _ = impl.StewDo(byMoves, m)
			}
			if next := impl.StewCalm(w, rounds, order); !sameStewWorld(next, byMoves) {
				t.Errorf("%v: %d rounds lead to %+v\nnot %+v", order, rounds, next, byMoves)
			}
		}
		if !impl.StewDone(byMoves.Book) {
			t.Errorf("%v: %+v", order, byMoves.Book)
		}
	}
}

// A round begins with the tick, and each steward sees what those ahead of it have left.
func TestStewCalmWithinARound(t *testing.T) {
	for _, c := range []struct {
		what         string
		book         impl.StewBook
		order        []int
		once, thrice string // the copies behind one round and behind three
	}{
		{"nothing", impl.StewBook{Now: 900}, nil, "", ""},
		{"what waits", crewBook(1, 1, 0, "w"), nil, "web1sa", "web1ra"},
		{"what ends", crewBook(0, 1, 0, "re"), nil, "", ""},
		{"one is missing", crewBook(1, 1, 0), nil, "web1w", "web1ra"},
		{"one that ends is missing", crewBook(1, 1, 0, "re"), nil, "web2w", "web2ra"},
		{"the mender ahead of the counter", crewBook(1, 1, 0, "f"), []int{3, 1}, "web1fae web2w", "web2ra"},
		{"the counter ahead of the mender", crewBook(1, 1, 0, "f"), []int{1, 3}, "web1fae", "web2sa"},
		{"the waver ahead of the counter", crewBook(1, 1, 0, "ro"), []int{2, 1}, "web1rae web2w", "web2ra"},
		{"the counter ahead of the waver", crewBook(1, 1, 0, "ro"), []int{1, 2}, "web1rae", "web2sa"},
		{"the counter ahead of the waver, which may be over", crewBook(1, 0, 1, "ro"), nil, "web1ra web2w", "web1rae web2ra"},
		{"the drainer ahead of the counter", crewBook(1, 1, 0, "rd"), []int{6, 1}, "web1rbe web2w", "web2ra"},
		{"the counter ahead of the drainer", crewBook(1, 1, 0, "rd"), []int{1, 6}, "web1rbe", "web2sa"},
		{"the sweeper ahead of all", goneBook("r", "f"), []int{5, 3}, "web1rae web2fae", ""},
		{"the mender ahead of the sweeper", goneBook("r", "f"), []int{3, 5}, "web1rae web2fae", ""},
	} {
		w := impl.StewWorld{Book: c.book}
		for rounds, want := range map[int]string{1: c.once, 3: c.thrice} {
			next := checkStewCalm(t, c.what, w, rounds, c.order...)
			if got := strings.ReplaceAll(seaText(next.Book), "*", ""); got != want {
				t.Errorf("%s: %d rounds lead to %q, not %q", c.what, rounds, got, want)
			}
		}
	}
	// What was Ending is gone ahead of the sweeper, so that the service is out at once.
	next := checkStewCalm(t, "a drop", impl.StewWorld{Book: goneBook("re", "we")}, 1)
	if len(next.Book.Services)+len(next.Book.Copies) != 0 || nowsOf(next) != "900 901 | 902" {
		t.Errorf("%s: %+v", nowsOf(next), next.Book)
	}
	// The scaler ahead of the counter, and behind it.
	for want, order := range map[int][]int{5: {4, 1}, 0: {1, 4}} {
		next := checkStewCalm(t, "a load", impl.StewWorld{Book: loadBook(1, 0, 5, 5, 0, 0)}, 1, order...)
		if len(next.Book.Copies) != want || next.Book.Services[0].Want != 5 {
			t.Errorf("%v: %+v", order, next.Book)
		}
	}
}

func TestStewCalmRounds(t *testing.T) {
	for rounds, want := range map[int]int{
		math.MinInt: 0, math.MinInt + 1: 0, -1000: 0, -2: 0, -1: 0, 0: 0, 1: 1, 2: 2, 9: 9, 999: 999, 1000: 1000,
		1001: 1000, 1002: 1000, 2000: 1000, 1 << 32: 1000, math.MaxInt - 1: 1000, math.MaxInt: 1000,
	} {
		w := checkStewCalm(t, "nothing", impl.StewWorld{}, rounds)
		if w.Book.Now != want || len(w.Past) != min(8, want) {
			t.Errorf("%d rounds: %s", rounds, nowsOf(w))
		}
		for i, b := range w.Past {
			if b.Now != want-len(w.Past)+i {
				t.Errorf("%d rounds: %s", rounds, nowsOf(w))
			}
		}
	}
	for _, rounds := range []int{math.MinInt, -1, 0} {
		for _, w := range []impl.StewWorld{{}, {Book: actBook()}, worldOfNows(20, 20, 21, 22, 23, 24, 25, 26, 27)} {
			if next := checkStewCalm(t, "no round", w, rounds, 3, 1); !sameStewWorld(next, w) {
				t.Errorf("%d rounds lead to %+v", rounds, next)
			}
		}
	}
}

// Where the versions are at their end nothing happens any more, and what was asked for is not done.
func TestStewCalmAtTheEnd(t *testing.T) {
	t.Parallel()
	for _, left := range []int{0, 1, 2, 7, 8, 19} {
		b := bookAt(1000000-left, turnsBook())
		w := checkStewCalm(t, "at the end", impl.StewWorld{Book: b}, 20)
		if w.Book.Now != 1000000 || len(w.Past) != min(8, left) {
			t.Errorf("%d left: %s", left, nowsOf(w))
		}
		if left == 0 && !sameBook(w.Book, b) {
			t.Errorf("%+v", w.Book)
		}
		if next := checkStewCalm(t, "at the end", w, 2, 6, 5, 4, 3, 2, 1); !sameStewWorld(next, w) {
			t.Errorf("%d left: %+v", left, next)
		}
	}
	w := impl.StewWorld{Past: slices.Repeat([]impl.StewBook{greatBook(8, 30, 6)}, 8), Book: greatBook(8, 30, 6)}
	if next := impl.StewCalm(w, math.MaxInt, []int{3}); !sameStewWorld(next, w) {
		t.Error(nowsOf(next))
	}
}

// The past is that of the changes, also within a round.
func TestStewCalmPast(t *testing.T) {
	w := checkStewCalm(t, "past", impl.StewWorld{Past: []impl.StewBook{{}}, Book: turnsBook()}, 1)
	if got := nowsOf(w); got != "0 900 901 902 903 904 905 906 | 907" {
		t.Error(got)
	}
	if !sameBook(w.Past[1], turnsBook()) {
		t.Errorf("%+v", w.Past[1])
	}
	ticked, _ := modelSea(turnsBook(), impl.StewEvent{Kind: impl.StewTick})
	if !sameBook(w.Past[2], ticked) {
		t.Errorf("%+v", w.Past[2])
	}
	w = checkStewCalm(t, "past", w, 1)
	if w.Past[0].Now != w.Book.Now-8 || len(w.Past) != 8 {
		t.Error(nowsOf(w))
	}
	// What was is not asked: each steward has Age 0.
	for _, past := range [][]impl.StewBook{nil, {{}}, {actBook()}, slices.Repeat([]impl.StewBook{fullBook()}, 8)} {
		next := checkStewCalm(t, "another past", impl.StewWorld{Past: past, Book: turnsBook()}, 4, 3, 1)
		if alone := impl.StewCalm(impl.StewWorld{Book: turnsBook()}, 4, []int{3, 1}); !sameBook(next.Book, alone.Book) {
			t.Errorf("%+v, not %+v", next.Book, alone.Book)
		}
	}
}

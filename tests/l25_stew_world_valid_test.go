package tests

import (
	"fmt"
	"math"
	"slices"
	"testing"

	"loop.example/wharffleet/impl"
)

// bookAt is a book with this Now, and with all else as it was.
func bookAt(now int, b impl.StewBook) impl.StewBook {
	b = cloneBook(b)
	b.Now = now
	return b
}

// worldOfNows has books like fullBook with these Nows, the last being the Book's.
func worldOfNows(nows ...int) impl.StewWorld {
	var w impl.StewWorld
	for _, now := range nows {
		w.Past = append(w.Past, bookAt(now, fullBook()))
	}
	last := len(nows) - 1
	w.Past, w.Book = w.Past[:last], w.Past[last]
	return w
}

// checkStewWorldOk holds StewWorldOk against the second reading. Breaks are the conditions that the world does not meet, with a comma between. Nothing comes of a world that is not ok.
func checkStewWorldOk(t *testing.T, what string, w impl.StewWorld, breaks ...string) {
	t.Helper()
	if got := impl.StewWorldOk(w); got != (len(breaks) == 0) {
		t.Errorf("%s: StewWorldOk is %v: %s", what, got, nowsOf(w))
	}
	if got := modelStewWorldFaults(w); !slices.Equal(got, breaks) {
		t.Errorf("%s: the second reading finds %q, not %q: %s", what, got, breaks, nowsOf(w))
	}
	if len(breaks) > 0 {
		checkNoStewWorld(t, what, w)
	}
}

// checkNoStewWorld does without the second reading, and without telling what may be very long.
func checkNoStewWorld(t *testing.T, what string, w impl.StewWorld) {
	t.Helper()
	if impl.StewWorldOk(w) {
		t.Errorf("%s: it is ok", what)
	}
	var moves []impl.StewMove
	for steward := -1; steward <= 7; steward++ {
		for _, age := range []int{0, 1, 9} {
			moves = append(moves, impl.StewMove{Steward: steward, Age: age})
		}
	}
	for _, e := range seaEvents() {
		moves = append(moves, impl.StewMove{Event: e})
	}
	for _, m := range moves {
		if next, codes := impl.StewDo(w, m); len(codes) > 0 || !sameStewWorld(next, impl.StewWorld{}) {
			t.Errorf("%s: %+v gives %v, %s", what, m, codes, nowsOf(next))
		}
	}
	for _, rounds := range []int{math.MinInt, -1, 0, 1, 2, 1000, 1001, math.MaxInt} {
		if next := impl.StewCalm(w, rounds, []int{3, 1}); !sameStewWorld(next, impl.StewWorld{}) {
			t.Errorf("%s: %d rounds lead to %s", what, rounds, nowsOf(next))
		}
	}
}

func TestStewWorldNumbers(t *testing.T) {
	if impl.StewMaxPast != 8 || impl.StewMaxCalm != 1000 {
		t.Error(impl.StewMaxPast, impl.StewMaxCalm)
	}
}

func TestStewWorldOkOrdinary(t *testing.T) {
	checkStewWorldOk(t, "nothing", impl.StewWorld{})
	checkStewWorldOk(t, "an empty past", impl.StewWorld{Past: []impl.StewBook{}})
	checkStewWorldOk(t, "a book alone", impl.StewWorld{Book: fullBook()})
	checkStewWorldOk(t, "a book behind nothing", impl.StewWorld{Past: make([]impl.StewBook, 1), Book: fullBook()})
	checkStewWorldOk(t, "nothing eight times", impl.StewWorld{Past: make([]impl.StewBook, 8)})
	checkStewWorldOk(t, "books with nothing in common", impl.StewWorld{Past: []impl.StewBook{{}, fullBook(), fullBook()}, Book: actBook()})
	checkStewWorldOk(t, "great ones", impl.StewWorld{Past: slices.Repeat([]impl.StewBook{greatBook(8, 200, 6)}, 8), Book: greatBook(8, 200, 6)})
	// Versions and Next of the past may be above those of the Book: each book is valid by itself.
	odd := fullBook()
	odd.Services[1].Version, odd.Services[1].Next = 20, 1000000
	checkStewWorldOk(t, "versions", impl.StewWorld{Past: []impl.StewBook{odd}, Book: func() impl.StewBook {
		b := fullBook()
		b.Services[1].Version = 1
		return b
	}()})
}

func TestStewWorldOkMaxPast(t *testing.T) {
	for n := range 12 {
		w := impl.StewWorld{Book: fullBook()}
		var breaks []string
		for range n {
			w.Past = append(w.Past, fullBook())
		}
		if n > 8 {
			breaks = []string{"past"}
		}
		checkStewWorldOk(t, fmt.Sprint(n, " of the past"), w, breaks...)
		empty := impl.StewWorld{Past: make([]impl.StewBook, n)}
		checkStewWorldOk(t, fmt.Sprint(n, " empty ones of the past"), empty, breaks...)
	}
}

func TestStewWorldOkBooks(t *testing.T) {
	for what, broken := range brokenBooks() {
		checkStewWorldOk(t, what, impl.StewWorld{Book: broken}, "book")
		for n := 1; n <= 8; n++ {
			full := impl.StewWorld{Past: slices.Repeat([]impl.StewBook{fullBook()}, n), Book: fullBook()}
			for place := range n {
				w := impl.StewWorld{Past: slices.Clone(full.Past), Book: full.Book}
				w.Past[place] = broken
				if n == 8 {
					checkStewWorldOk(t, fmt.Sprintf("%s at %d of %d", what, place, n), w, "past book")
				} else if impl.StewWorldOk(w) {
					t.Errorf("%s at %d of %d: it is ok", what, place, n)
				}
			}
			full.Book = broken
			if impl.StewWorldOk(full) {
				t.Errorf("%s behind %d: it is ok", what, n)
			}
		}
		checkStewWorldOk(t, what+" everywhere", impl.StewWorld{Past: []impl.StewBook{broken, broken}, Book: broken}, "book", "past book")
	}
	// A Now that no book may have, in the order of Nows.
	checkStewWorldOk(t, "a Now above all", impl.StewWorld{Past: []impl.StewBook{bookAt(20, fullBook())}, Book: bookAt(1000001, fullBook())}, "book")
	checkStewWorldOk(t, "a Now below all", impl.StewWorld{Past: []impl.StewBook{bookAt(-1, impl.StewBook{})}, Book: impl.StewBook{}}, "past book")
	checkStewWorldOk(t, "the last Now", impl.StewWorld{Past: []impl.StewBook{bookAt(1000000, fullBook())}, Book: bookAt(1000000, fullBook())})
}

func TestStewWorldOkNows(t *testing.T) {
	checkStewWorldOk(t, "all equal", worldOfNows(20, 20, 20, 20, 20, 20, 20, 20, 20))
	checkStewWorldOk(t, "ascending", worldOfNows(20, 21, 22, 23, 24, 25, 26, 27, 28))
	checkStewWorldOk(t, "ascending, with gaps", worldOfNows(20, 30, 300, 999999, 1000000))
	checkStewWorldOk(t, "some equal", worldOfNows(20, 21, 21, 22, 22, 22, 23, 23, 23))
	checkStewWorldOk(t, "the last just the Book's", worldOfNows(20, 21, 30, 30))
	checkStewWorldOk(t, "one just the Book's", worldOfNows(30, 30))
	checkStewWorldOk(t, "one above the Book's", worldOfNows(31, 30), "above the book")
	checkStewWorldOk(t, "the last above the Book's", worldOfNows(20, 21, 31, 30), "above the book")
	checkStewWorldOk(t, "all above the Book's", worldOfNows(31, 32, 33, 30), "above the book")
	checkStewWorldOk(t, "the first above all", worldOfNows(40, 21, 22, 30), "above the book", "nows")
	checkStewWorldOk(t, "descending", worldOfNows(29, 28, 27, 26, 25, 24, 23, 22, 30), "nows")
	checkStewWorldOk(t, "descending, the Book's the least", worldOfNows(24, 23, 22, 21), "above the book", "nows")
	for n := 2; n <= 8; n++ {
		for place := 1; place < n; place++ {
			for _, falls := range []int{0, 1, 2, 9} {
				var nows []int
				for i := range n {
					nows = append(nows, 100+10*i)
				}
				nows = append(nows, 200)
				nows[place] = nows[place-1] - falls
				var breaks []string
				if falls > 0 {
					breaks = []string{"nows"}
				}
				checkStewWorldOk(t, fmt.Sprintf("%d less at %d of %d", falls, place, n), worldOfNows(nows...), breaks...)
			}
		}
	}
}

func TestStewWorldInGoodTime(t *testing.T) {
	inGoodTime(t, "lists that are far too long", func() {
		checkNoStewWorld(t, "a past that is far too long", impl.StewWorld{Past: make([]impl.StewBook, 1000000)})
		b := fullBook()
		b.Copies = slices.Repeat(b.Copies, 20000)
		checkNoStewWorld(t, "a book that is far too long", impl.StewWorld{Book: b})
		checkNoStewWorld(t, "past books that are far too long", impl.StewWorld{Past: slices.Repeat([]impl.StewBook{b}, 8), Book: fullBook()})
		w := impl.StewCalm(impl.StewWorld{Book: fullBook()}, 1, slices.Repeat([]int{7, 3, 3}, 1000000))
		if !sameStewWorld(w, impl.StewCalm(impl.StewWorld{Book: fullBook()}, 1, []int{3})) {
			t.Error("an order that is far too long is another one")
		}
	})
}

package tests

import (
	"fmt"
	"math"
	"math/rand"
	"reflect"
	"slices"
	"strings"
	"testing"

	"loop.example/wharffleet/impl"
)

// A second reading of chapter 25, made another way than the program: all books stand in one list, to which each change is added, and of which the last nine are left; calm rounds are a list of moves.

// modelStewWorldFaults are the conditions of an ok world that one does not meet, each once and in order.
func modelStewWorldFaults(w impl.StewWorld) []string {
	var faults []string
	fault := func(name string, is bool) {
		if is {
			faults = append(faults, name)
		}
	}
	fault("past", len(w.Past) > 8)
	fault("book", len(modelBookFaults(w.Book)) > 0)
	for i, b := range w.Past {
		fault("past book", len(modelBookFaults(b)) > 0)
		fault("above the book", b.Now > w.Book.Now)
		for _, later := range w.Past[i:] {
			fault("nows", b.Now > later.Now)
		}
	}
	return modelSet(faults)
}

// plainStewWorld shares nothing with its world, and has nil for lists that are empty.
func plainStewWorld(w impl.StewWorld) impl.StewWorld {
	w.Past, w.Book = nilIfEmpty(w.Past), plainBook(w.Book)
	for i, b := range w.Past {
		w.Past[i] = plainBook(b)
	}
	return w
}

func sameStewWorld(a, b impl.StewWorld) bool {
	return reflect.DeepEqual(plainStewWorld(a), plainStewWorld(b))
}

// modelBooks are all that a world remembers, the Book last.
func modelBooks(w impl.StewWorld) []impl.StewBook {
	return append(slices.Clone(w.Past), w.Book)
}

// modelView is of books of which the last is the Book.
func modelView(books []impl.StewBook, age int) impl.StewBook {
	books = slices.Clone(books)
	slices.Reverse(books)
	for i, b := range books {
		if i >= age {
			return b
		}
	}
	return books[len(books)-1]
}

func modelMove(w impl.StewWorld, m impl.StewMove) (impl.StewWorld, []int) {
	if len(modelStewWorldFaults(w)) > 0 {
		return impl.StewWorld{}, nil
	}
	return modelMoveOk(w, m)
}

// modelMoveOk is of a world that is ok.
func modelMoveOk(w impl.StewWorld, m impl.StewMove) (impl.StewWorld, []int) {
	books := modelBooks(w)
	var codes []int
	tell := func(next impl.StewBook, code int) {
		codes = append(codes, code)
		if code == 0 {
			books = append(books, next)
		}
	}
	if strings.Contains(" 1 2 3 4 5 6 ", fmt.Sprintf(" %d ", m.Steward)) {
		for _, a := range modelStewAsk(m.Steward, modelView(books, m.Age)) {
			tell(modelApply(books[len(books)-1], a))
		}
	} else {
		tell(modelSea(books[len(books)-1], m.Event))
	}
	books = books[max(0, len(books)-9):]
	last := len(books) - 1
	return plainStewWorld(impl.StewWorld{Past: books[:last], Book: books[last]}), codes
}

// modelTurns tell the stewards of a round, the first time that each is named.
func modelTurns(order []int) []int {
	var turns []int
	for _, n := range append(slices.Clone(order), 1, 2, 3, 4, 5, 6) {
		if 0 < n && n < 7 && !slices.Contains(turns, n) {
			turns = append(turns, n)
		}
	}
	return turns
}

// modelRound are the moves of a calm round.
func modelRound(order []int) []impl.StewMove {
	moves := []impl.StewMove{{Event: impl.StewEvent{Kind: impl.StewTick}}}
	for _, n := range modelTurns(order) {
		moves = append(moves, impl.StewMove{Steward: n})
	}
	return moves
}

func modelStewCalm(w impl.StewWorld, rounds int, order []int) impl.StewWorld {
	if len(modelStewWorldFaults(w)) > 0 {
		return impl.StewWorld{}
	}
	for range max(0, min(1000, rounds)) {
		for _, m := range modelRound(order) {
			w, _ = modelMoveOk(w, m)
		}
	}
	return plainStewWorld(w)
}

// nowsOf tells the Nows of a world's books, a bar ahead of the Book's.
func nowsOf(w impl.StewWorld) string {
	text := ""
	for _, b := range w.Past {
		text += fmt.Sprint(b.Now, " ")
	}
	return text + fmt.Sprint("| ", w.Book.Now)
}

// checkMove holds StewDo against the second reading, and against what promise 23 says of a world's moves.
func checkMove(t *testing.T, what string, w impl.StewWorld, m impl.StewMove) (impl.StewWorld, []int) {
	t.Helper()
	next, codes := impl.StewDo(w, m)
	wanted, wantedCodes := modelMove(w, m)
	if !slices.Equal(codes, wantedCodes) || !sameStewWorld(next, wanted) {
		t.Errorf("%s: %+v\nof %+v\ngives %v, %+v\nnot %v, %+v", what, m, w, codes, next, wantedCodes, wanted)
		return next, codes
	}
	if !impl.StewWorldOk(w) {
		if len(codes) > 0 || !sameStewWorld(next, impl.StewWorld{}) {
			t.Errorf("%s: %+v of what is not ok gives %v, %+v", what, m, codes, next)
		}
		return next, codes
	}
	done := 0
	for _, code := range codes {
		done += map[int]int{0: 1}[code]
	}
	if !impl.StewWorldOk(next) || next.Book.Now != w.Book.Now+done || len(next.Past) != min(8, len(w.Past)+done) {
		t.Errorf("%s: %+v with codes %v leads from %s to %s", what, m, codes, nowsOf(w), nowsOf(next))
	}
	if done == 0 && !sameStewWorld(next, w) {
		t.Errorf("%s: nothing was done by %+v, and the world is another one: %+v", what, m, next)
	}
	return next, codes
}

// checkStewCalm holds StewCalm against the second reading.
func checkStewCalm(t *testing.T, what string, w impl.StewWorld, rounds int, order ...int) impl.StewWorld {
	t.Helper()
	next, wanted := impl.StewCalm(w, rounds, order), modelStewCalm(w, rounds, order)
	if !sameStewWorld(next, wanted) {
		t.Errorf("%s: %d rounds in the order %v\nof %+v\nlead to %+v\nnot %+v", what, rounds, order, w, next, wanted)
	}
	return next
}

// stirBook is a book with something changed that no act and no event would change so, mostly without a new Version, so that what is asked for by the one may meet anything in the other.
func stirBook(r *rand.Rand, b impl.StewBook) impl.StewBook {
	next := cloneBook(b)
	next.Now = min(1000000, next.Now+r.Intn(2))
	if len(b.Services) == 0 {
		return next
	}
	service := r.Intn(len(b.Services))
	s := &next.Services[service]
	switch what := r.Intn(9); {
	case what == 0:
		s.Version = next.Now
	case what == 1:
		s.Want = r.Intn(11)
	case what == 2:
		next.Services = slices.Delete(next.Services, service, service+1)
		next.Copies = slices.DeleteFunc(next.Copies, func(c impl.StewCopy) bool { return c.Service == b.Services[service].Name })
	case what == 3 && s.Next < 1000000:
		at, _ := slices.BinarySearchFunc(next.Copies, *s, func(c impl.StewCopy, s impl.StewService) int {
			if c.Service <= s.Name {
				return -1
			}
			return 1
		})
		next.Copies = slices.Insert(next.Copies, at, impl.StewCopy{Service: s.Name, Number: s.Next, Version: next.Now, Image: s.Image, State: impl.StewWaiting})
		s.Next++
	case len(b.Copies) > 0:
		at := r.Intn(len(b.Copies))
		c := &next.Copies[at]
		switch what {
		case 4:
			next.Copies = slices.Delete(next.Copies, at, at+1)
		case 5:
			c.Version = next.Now
		case 6:
			c.Ending = !c.Ending
		case 7:
			c.Image = 1 + r.Intn(3)
		default:
			if c.Berth != "" {
				c.State = pickOf(r, impl.StewStarting, impl.StewReady, impl.StewFailed)
			}
		}
	}
	if len(modelBookFaults(next)) > 0 {
		return b
	}
	return next
}

// randomStewWorld is ok, and need not be one that moves lead to.
func randomStewWorld(r *rand.Rand) impl.StewWorld {
	b := pickOf(r, stewardsBook, stewardsBook, readyBook, randomBook, edgeBook)(r)
	if r.Intn(20) == 0 {
		b = crowdedBook(r)
	}
	if len(modelBookFaults(b)) > 0 { // one with a Now below a Version
		return randomStewWorld(r)
	}
	var w impl.StewWorld
	for range pickOf(r, 0, 1, 2, 7, 8, 8) {
		w.Past = append(w.Past, b)
		for range r.Intn(4) {
			b = stirBook(r, b)
		}
	}
	w.Book = b
	return w
}

// someAges are those of all kinds.
func someAges() []int {
	return []int{math.MinInt, math.MinInt + 1, -8, -1, 0, 1, 2, 3, 4, 5, 6, 7, 8, 9, 10, 16, 100, 1 << 32, math.MaxInt - 1, math.MaxInt}
}

// noStewards are numbers of none.
func noStewards() []int {
	return []int{math.MinInt, math.MinInt + 1, math.MinInt32, -7, -6, -2, -1, 0, 7, 8, 9, 100, 1 << 8, 1<<8 + 1, 1 << 32, 1<<32 + 1, 1<<32 + 6, math.MaxInt - 1, math.MaxInt}
}

func randomMove(r *rand.Rand, w impl.StewWorld) impl.StewMove {
	m := impl.StewMove{Steward: 1 + r.Intn(6), Age: pickOf(r, someAges()...), Event: randomSeaEvent(r, w.Book)}
	if r.Intn(3) == 0 {
		m.Steward = pickOf(r, noStewards()...)
	}
	if r.Intn(4) == 0 {
		breakSeaEvent(r, &m.Event)
	}
	return m
}

// breakStewWorld changes one thing, behind which a world mostly is not ok.
func breakStewWorld(r *rand.Rand, w *impl.StewWorld) {
	w.Past = slices.Clone(w.Past)
	for i, b := range w.Past {
		w.Past[i] = cloneBook(b)
	}
	w.Book = cloneBook(w.Book)
	switch n := r.Intn(5); {
	case n == 0:
		breakBook(r, &w.Book)
	case n == 1:
		for len(w.Past) < 9 {
			w.Past = append(w.Past, w.Book)
		}
	case len(w.Past) == 0:
	case n == 2:
		breakBook(r, &w.Past[r.Intn(len(w.Past))])
	case n == 3:
		slices.Reverse(w.Past)
	case n == 4:
		w.Past[len(w.Past)-1].Now = min(1000000, w.Book.Now+1)
	}
}

func TestStewDoAsRead(t *testing.T) {
	t.Parallel()
	r := rand.New(rand.NewSource(251))
	met := map[string]int{}
	for i := range 4000 {
		w := randomStewWorld(r)
		if i%8 == 0 {
			breakStewWorld(r, &w)
		}
		for _, fault := range modelStewWorldFaults(w) {
			met[fault]++
		}
		if got := impl.StewWorldOk(w); got != (len(modelStewWorldFaults(w)) == 0) {
			t.Fatalf("StewWorldOk is %v: %+v", got, w)
		}
		m := randomMove(r, w)
		_, codes := checkMove(t, "a drawn move", w, m)
		who := "a steward"
		if m.Steward < 1 || m.Steward > 6 {
			who = "the sea"
		}
		for _, code := range codes {
			met[fmt.Sprint(who, " ", code)]++
		}
		if who == "a steward" {
			met[fmt.Sprint("acts ", min(3, len(codes)))]++
			met[fmt.Sprint("steward ", m.Steward)] += len(codes)
			if len(codes) > 1 && slices.Contains(codes, 0) && slices.Max(codes) > 0 {
				met["some are done"]++
			}
		}
		if t.Failed() {
			return
		}
	}
	for _, what := range []string{
		"past", "book", "past book", "nows", "above the book", "acts 0", "acts 1", "acts 2", "acts 3", "some are done",
		"a steward 0", "a steward 3", "a steward 4", "a steward 5", "a steward 6", "a steward 7", "the sea 0", "the sea 2", "the sea 3", "the sea 4", "the sea 7",
		"steward 1", "steward 2", "steward 3", "steward 4", "steward 5", "steward 6",
	} {
		if met[what] < 8 {
			t.Errorf("%q was met %d times: the moves tell too little", what, met[what])
		}
	}
}

// randomOrder has some of all stewards, again and again, and numbers of none.
func randomOrder(r *rand.Rand) []int {
	var order []int
	for range r.Intn(10) {
		order = append(order, pickOf(r, 1, 2, 3, 4, 5, 6, 1+r.Intn(6), pickOf(r, noStewards()...)))
	}
	return order
}

func TestStewCalmAsRead(t *testing.T) {
	t.Parallel()
	r := rand.New(rand.NewSource(252))
	turns, rounds := map[string]int{}, map[int]int{}
	for i := range 700 {
		w := randomStewWorld(r)
		if i%8 == 0 {
			breakStewWorld(r, &w)
		}
		order, n := randomOrder(r), pickOf(r, math.MinInt, -1, 0, 1, 1, 2, 3, 9)
		turns[fmt.Sprint(modelTurns(order))]++
		rounds[n]++
		checkStewCalm(t, "a drawn world", w, n, order...)
		if t.Failed() {
			return
		}
	}
	if len(turns) < 200 || len(rounds) != 7 {
		t.Errorf("the orders tell too little: %d, %v", len(turns), rounds)
	}
}

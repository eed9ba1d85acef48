package tests

import (
	"fmt"
	"math"
	"math/rand"
	"slices"
	"testing"

	"loop.example/wharffleet/impl"
)

// livelyService is wanted in ways that matter: few and many, with what may be down and what may be over, and with a load to follow.
func livelyService(r *rand.Rand, name string) impl.StewService {
	s := randomService(r, name, 1)
	spare := pickOf(r, [2]int{0, 1}, [2]int{1, 0}, [2]int{1, 1}, [2]int{2, 0}, [2]int{0, 3}, [2]int{s.Down, s.Over})
	s.Gone, s.Want, s.Down, s.Over = r.Intn(8) == 0, pickOf(r, 0, 1, 2, 3, 5, 10), spare[0], spare[1]
	return s
}

// livelyMove is one of a world that goes on: stewards who look now and late, ticks, and what happens to a fleet.
func livelyMove(r *rand.Rand, w impl.StewWorld) impl.StewMove {
	m := impl.StewMove{Steward: 1 + r.Intn(6), Age: pickOf(r, 0, 0, 0, 1, 1, 2, 3, 8, pickOf(r, someAges()...))}
	e := impl.StewEvent{Flag: r.Intn(3) == 0, Name: pickOf(r, "t", "u", "v", "w", "x", "y", "z")}
	switch n := r.Intn(100); {
	case n < 60:
		return m
	case n < 75:
		e.Kind = impl.StewTick
	case n < 80:
		e.Kind, e.Service = impl.StewWish, livelyService(r, pickOf(r, "a", "a-1", "b", "c", "d", "e"))
	case n < 81 && len(w.Book.Berths) > 1:
		e.Kind = impl.StewSink
	case n < 85:
		e.Kind = impl.StewRaise
	case n < 88 && len(w.Book.Services) > 0:
		e.Kind, e.Name, e.Number = impl.StewLoad, pickOf(r, w.Book.Services...).Name, r.Intn(60)
	case n < 97 && len(w.Book.Copies) > 0:
		c := pickOf(r, w.Book.Copies...)
		e.Kind, e.Name, e.Number = impl.StewFails, c.Service, c.Number
	default:
		e.Kind = r.Intn(9)
	}
	return impl.StewMove{Steward: pickOf(r, 0, 7, -1), Age: m.Age, Event: e}
}

func mustDo(t *testing.T, w impl.StewWorld, e impl.StewEvent) impl.StewWorld {
	t.Helper()
	next, codes := impl.StewDo(w, impl.StewMove{Event: e})
	if !slices.Equal(codes, []int{0}) {
		t.Fatalf("%+v has codes %v: %+v", e, codes, w.Book)
	}
	return next
}

// hasOpenBerth is what promise 29 asks for.
func hasOpenBerth(b impl.StewBook) bool {
	return slices.ContainsFunc(b.Berths, func(h impl.StewBerth) bool { return !h.Drain })
}

// withOpenBerth is a world with a berth that is not to be drained, by one more event if need be.
func withOpenBerth(t *testing.T, w impl.StewWorld) impl.StewWorld {
	t.Helper()
	if hasOpenBerth(w.Book) {
		return w
	}
	name := "z"
	if len(w.Book.Berths) > 0 {
		name = w.Book.Berths[len(w.Book.Berths)-1].Name
	}
	return mustDo(t, w, impl.StewEvent{Kind: impl.StewRaise, Name: name})
}

// checkStewLiveness holds promises 29 and 30 of a world that moves have led to, with a berth that is not to be drained. It tells how many rounds it took, and how many acts.
func checkStewLiveness(t *testing.T, from impl.StewWorld, order []int) (rounds, acts int) {
	t.Helper()
	calm := impl.StewCalm(from, 300, order)
	for _, more := range []int{0, 1, 9} {
		if calm = impl.StewCalm(calm, more, order); !impl.StewDone(calm.Book) {
			t.Fatalf("promise 29: in the order %v %v is left to do: %+v\nfrom %+v", order, impl.StewRank(calm.Book), calm.Book, from.Book)
		}
	}
	w := from
	for rounds < 300 {
		quiet := true
		for _, m := range modelRound(order) {
			asked := impl.StewAsk(m.Steward, w.Book)
			next, codes := impl.StewDo(w, m)
			if m.Steward > 0 {
				if len(asked) != len(codes) || slices.ContainsFunc(codes, func(code int) bool { return code != 0 }) {
					t.Fatalf("promise 30: in the order %v, round %d, steward %d asks for %+v, codes %v: %+v", order, rounds, m.Steward, asked, codes, w.Book)
				}
				acts += len(codes)
				quiet = quiet && len(codes) == 0
			}
			w = next
		}
		rounds++
		if quiet && impl.StewDone(w.Book) {
			break // from here on nothing is asked for: promise 28
		}
	}
	if byRounds := impl.StewCalm(from, rounds, order); !sameStewWorld(w, byRounds) {
		t.Fatalf("in the order %v %d rounds lead by moves to %+v\nand at once to %+v", order, rounds, w, byRounds)
	}
	return rounds, acts
}

// checkLateMove holds promises 23, 25 and 26 of a move in a world: what a steward asks for by a view is done whole or not at all, does no harm, and is not done if it is late. The books between the acts are those that the world remembers.
func checkLateMove(t *testing.T, w impl.StewWorld, m impl.StewMove, met map[string]int) impl.StewWorld {
	t.Helper()
	next, codes := impl.StewDo(w, m)
	if !impl.StewWorldOk(next) {
		t.Fatalf("promise 23: %+v leads to what is not ok: %+v", m, next)
	}
	books := modelBooks(next)
	done := len(slices.DeleteFunc(slices.Clone(codes), func(code int) bool { return code != 0 }))
	books = books[len(books)-1-done:]
	if !sameBook(books[0], w.Book) {
		t.Fatalf("promise 23: %+v with codes %v, and ahead of what was done was %+v, not %+v", m, codes, books[0], w.Book)
	}
	if m.Steward < 1 || m.Steward > 6 {
		checkPromise23OfEvents(t, w.Book, m.Event, next.Book, codes[0])
		met[fmt.Sprint("event ", m.Event.Kind, " ", codes[0])]++
		return next
	}
	acts := impl.StewAsk(m.Steward, modelView(modelBooks(w), m.Age))
	if len(acts) != len(codes) {
		t.Fatalf("%+v has codes %v for %+v", m, codes, acts)
	}
	for i, a := range acts {
		b, late := books[0], seenLate(books[0], a)
		if late && codes[i] != 3 && codes[i] != 4 {
			t.Fatalf("promise 26: %+v is late, and has code %d: %+v", a, codes[i], b)
		}
		behind := b
		if codes[i] == 0 {
			books = books[1:]
			behind = books[0]
		}
		checkPromise23OfActs(t, b, a, behind, codes[i])
		checkPromise25(t, b, a, behind, codes[i])
		checkPromise26(t, b, a, behind, codes[i])
		met[fmt.Sprint("late ", late, " ", codes[i])]++
		if codes[i] == 0 {
			met[fmt.Sprint("steward ", m.Steward, " ", kindOfAct(a))]++
			met[fmt.Sprint("ready ended ", endedReady(b, a))]++
			met[fmt.Sprint("by a view that was ", !sameBook(w.Book, modelView(modelBooks(w), m.Age)))]++
		}
	}
	return next
}

// Promises 23, 25 and 26 over each of many drawn moves from nothing on, and 29 and 30 behind the last.
func TestPromises29And30(t *testing.T) {
	for part := range 4 {
		t.Run(fmt.Sprint("part ", part), func(t *testing.T) {
			t.Parallel()
			r := rand.New(rand.NewSource(int64(2550 + part)))
			met := map[string]int{}
			rounds, acts := 0, 0
			for range 20 {
				w := impl.StewWorld{}
				for range 150 + r.Intn(200) {
					w = checkLateMove(t, w, livelyMove(r, w), met)
					if t.Failed() {
						return
					}
				}
				n, did := checkStewLiveness(t, withOpenBerth(t, w), randomOrder(r))
				rounds, acts = rounds+n, acts+did
			}
			for _, what := range []string{
				"late false 0", "late true 4", "ready ended true", "ready ended false", "by a view that was true", "by a view that was false",
				"steward 1 create ", "steward 1 ends ", "steward 2 create ", "steward 2 ends ", "steward 3 ends ", "steward 4 scale ", "steward 5 ends ", "steward 5 drop ", "steward 6 create ", "steward 6 ends ",
				"event 1 0", "event 2 0", "event 3 0", "event 4 0", "event 5 0", "event 6 0",
			} {
				if met[what] < 2 {
					t.Errorf("%q was met %d times: the moves tell too little", what, met[what])
				}
			}
			if rounds < 60 || acts < 200 {
				t.Errorf("the worlds tell too little: %d rounds, %d acts", rounds, acts)
			}
		})
	}
}

// manyFail has another image wanted of a service, and its copies fail, while stewards look who saw the book between the two.
func manyFail(r *rand.Rand, b impl.StewBook) []impl.StewMove {
	if len(b.Copies) == 0 {
		return nil
	}
	of := pickOf(r, b.Copies...).Service
	s := b.Services[slices.IndexFunc(b.Services, func(s impl.StewService) bool { return s.Name == of })]
	s.Image, s.Down, s.Over = s.Image+1, 1+r.Intn(2), 0
	moves := []impl.StewMove{{Event: wishOf(s)}}
	for _, c := range b.Copies {
		if c.Service == of && c.State == impl.StewReady && r.Intn(3) == 0 {
			moves = append(moves, impl.StewMove{Event: impl.StewEvent{Kind: impl.StewFails, Name: of, Number: c.Number}})
		}
	}
	age := len(moves) - 1
	for _, steward := range []int{impl.StewWaver, impl.StewDrainer, impl.StewCounter} {
		moves = append(moves, impl.StewMove{Steward: steward, Age: age})
	}
	return moves
}

// Promises 23, 25 and 26 over more of such moves, in worlds that go on for long.
func TestPromises23And25And26OfMoves(t *testing.T) {
	t.Parallel()
	r := rand.New(rand.NewSource(256))
	met := map[string]int{}
	for range 12 {
		w := impl.StewWorld{}
		for range 400 {
			moves := []impl.StewMove{livelyMove(r, w)}
			if r.Intn(10) == 0 {
				moves = manyFail(r, w.Book)
			}
			for _, m := range moves {
				w = checkLateMove(t, w, m, met)
			}
			if t.Failed() {
				return
			}
		}
	}
	for what, least := range map[string]int{"late false 0": 100, "late true 3": 20, "late true 4": 100, "late false 5": 5, "ready ended true": 100, "by a view that was true": 100} {
		if met[what] < least {
			t.Errorf("%q was met %d times: the moves tell too little: %v", what, met[what], met)
		}
	}
}

// Promise 29 with orders that change from round to round.
func TestPromise29InOrdersThatChange(t *testing.T) {
	t.Parallel()
	r := rand.New(rand.NewSource(257))
	for range 6 {
		w := impl.StewWorld{}
		for range 150 {
			w, _ = impl.StewDo(w, livelyMove(r, w))
		}
		w = withOpenBerth(t, w)
		for range 300 {
			w = impl.StewCalm(w, 1, randomOrder(r))
		}
		for range 5 {
			if !impl.StewDone(w.Book) {
				t.Fatalf("%v is left to do: %+v", impl.StewRank(w.Book), w.Book)
			}
			w = impl.StewCalm(w, 1, randomOrder(r))
		}
	}
}

// slowWorld has as many services as there may be, with as many copies as there may be, all of an old image, on berths that are to be drained but for one, and with a load that asks for none any more.
func slowWorld(t *testing.T, down, over int) impl.StewWorld {
	t.Helper()
	w := impl.StewWorld{}
	for _, name := range []string{"u", "v", "w", "x", "y", "z"} {
		w = mustDo(t, w, impl.StewEvent{Kind: impl.StewRaise, Name: name})
	}
	wish := func(image, load int) {
		for i := range 8 {
			s := impl.StewService{Name: fmt.Sprint("s", i), Image: image, Want: 10, Down: down, Over: over}
			if i%2 == 0 {
				s.Per, s.Most, s.Load = 1, 10, load
			}
			w = mustDo(t, w, wishOf(s))
		}
	}
	wish(1, 10)
	w = impl.StewCalm(w, 5, nil)
	if !impl.StewDone(w.Book) || len(w.Book.Copies) != 80 {
		t.Fatalf("%+v", w.Book)
	}
	wish(2, 0)
	for _, name := range []string{"u", "v", "w", "x", "y"} {
		w = mustDo(t, w, impl.StewEvent{Kind: impl.StewRaise, Name: name, Flag: true})
	}
	return w
}

func TestPromise29OfTheSlowest(t *testing.T) {
	t.Parallel()
	slowest := 0
	for i, spare := range [][2]int{{1, 0}, {0, 1}, {0, 10}, {10, 10}} {
		for _, order := range [][]int{nil, {6, 5, 4, 3, 2, 1}}[i/2:] {
			w := slowWorld(t, spare[0], spare[1])
			rounds, _ := checkStewLiveness(t, w, order)
			slowest = max(slowest, rounds)
			calm := impl.StewCalm(w, 300, order)
			if len(calm.Book.Copies) != 40 {
				t.Errorf("%v, %v: %d copies", spare, order, len(calm.Book.Copies))
			}
			// A copy fails in each round for a while, and berths are to be drained by turns: behind that it is done, too.
			for i := range 20 {
				w = impl.StewCalm(w, 1, order)
				c := w.Book.Copies[i*7%len(w.Book.Copies)]
				w, _ = impl.StewDo(w, impl.StewMove{Event: impl.StewEvent{Kind: impl.StewFails, Name: c.Service, Number: c.Number}})
				w = mustDo(t, w, impl.StewEvent{Kind: impl.StewRaise, Name: "z", Flag: i%2 == 0})
			}
			if rounds, _ := checkStewLiveness(t, w, order); rounds < 1 {
				t.Errorf("%v, %v: %d rounds", spare, order, rounds)
			}
		}
	}
	if slowest < 40 || slowest > 200 {
		t.Errorf("the slowest takes %d rounds", slowest)
	}
}

// Promises 29 and 30 with Now and Next as far on as they may be.
func TestPromise29AtTheEndOfNumbers(t *testing.T) {
	t.Parallel()
	w := slowWorld(t, 0, 10)
	w.Past = nil
	w.Book.Now = 900000
	for i := range w.Book.Services {
		w.Book.Services[i].Next = 900000
	}
	rounds, acts := checkStewLiveness(t, w, []int{2, 6})
	if rounds < 20 || acts < 300 {
		t.Errorf("%d rounds, %d acts", rounds, acts)
	}
}

// Without a berth that is not to be drained it is not done as long as copies are wanted; and it is when there is one again.
func TestPromise29NeedsABerth(t *testing.T) {
	w := mustDo(t, impl.StewWorld{}, impl.StewEvent{Kind: impl.StewRaise, Name: "x", Flag: true})
	w = mustDo(t, w, wishOf(impl.StewService{Name: "a", Image: 1, Want: 2, Over: 1}))
	for _, order := range [][]int{nil, {6, 1}} {
		calm := impl.StewCalm(w, 300, order)
		if impl.StewDone(calm.Book) || len(calm.Book.Copies) != 2 || calm.Book.Copies[0].State != impl.StewWaiting {
			t.Errorf("%+v", calm.Book)
		}
		calm = mustDo(t, calm, impl.StewEvent{Kind: impl.StewRaise, Name: "w"})
		checkStewLiveness(t, calm, order)
	}
	// Nothing at all is done, and stays so.
	for _, order := range [][]int{nil, {3, 1}} {
		if rounds, acts := checkStewLiveness(t, impl.StewWorld{}, order); rounds != 1 || acts != 0 {
			t.Errorf("%d rounds, %d acts", rounds, acts)
		}
	}
}

// Where promise 30 does not hold by what the chapters say: the mender has so many copies end at once that the counter's new ones find no room in the book (StewMaxCopies, code 7 of chapter 21) until the next tick. Promise 29 holds all the same.
func TestPromise30WithoutRoom(t *testing.T) {
	w := mustDo(t, impl.StewWorld{}, impl.StewEvent{Kind: impl.StewRaise, Name: "x"})
	for image := 1; image <= 2; image++ {
		for i := range 8 {
			w = mustDo(t, w, wishOf(impl.StewService{Name: fmt.Sprint("s", i), Image: image, Want: 10, Over: 10}))
		}
		for range 10 {
			for _, steward := range []int{impl.StewCounter, impl.StewWaver} {
				w, _ = impl.StewDo(w, impl.StewMove{Steward: steward})
			}
		}
	}
	for range 2 {
		w = mustDo(t, w, impl.StewEvent{Kind: impl.StewTick})
	}
	for _, c := range w.Book.Copies {
		w = mustDo(t, w, impl.StewEvent{Kind: impl.StewFails, Name: c.Service, Number: c.Number})
	}
	if len(w.Book.Copies) != 160 {
		t.Fatalf("%d copies", len(w.Book.Copies))
	}
	x := &stewTale{t, w}
	x.tick()
	x.looks(impl.StewMender, 0, 0, 0, 0, 0, 0, 0, 0, 0)
	x.looks(impl.StewCounter, 0, 0, 0, 0, 0, 7, 7, 7, 7)
	if len(x.w.Book.Copies) != 200 {
		t.Errorf("%d copies", len(x.w.Book.Copies))
	}
	x.tick()
	x.looks(impl.StewMender, 0)
	x.looks(impl.StewCounter, 0, 0, 0, 0, 0)
	x.w = checkStewCalm(t, "without room", x.w, 3)
	if !impl.StewDone(x.w.Book) {
		t.Errorf("%v is left to do", impl.StewRank(x.w.Book))
	}
	for _, order := range [][]int{nil, {3, 1}} {
		if calm := impl.StewCalm(w, 300, order); !impl.StewDone(calm.Book) {
			t.Errorf("promise 29: %v is left to do", impl.StewRank(calm.Book))
		}
	}
	// With the counter first there is room for all.
	checkStewLiveness(t, w, []int{1, 3})
}

// Promise 31, of any ok worlds and any orders.
func TestPromise31(t *testing.T) {
	t.Parallel()
	r := rand.New(rand.NewSource(258))
	for i := range 150 {
		w := randomStewWorld(r)
		if i%3 == 0 {
			w = impl.StewWorld{}
			for range 60 {
				w, _ = impl.StewDo(w, livelyMove(r, w))
			}
		}
		checkPromise31(t, w, r.Intn(7), r.Intn(7), randomOrder(r))
	}
	w := slowWorld(t, 1, 0)
	w.Book.Services = w.Book.Services[:1]
	w.Book.Copies = slices.DeleteFunc(w.Book.Copies, func(c impl.StewCopy) bool { return c.Service > "s0" })
	w.Past = nil
	for _, c := range [][2]int{{0, 0}, {0, 1}, {1, 0}, {1, 1}, {0, 1000}, {1000, 0}, {1, 999}, {500, 500}, {999, 1}, {333, 444}} {
		for _, order := range [][]int{nil, {6, 6, 0, 3, math.MaxInt}} {
			checkPromise31(t, w, c[0], c[1], order)
		}
	}
}

func checkPromise31(t *testing.T, w impl.StewWorld, a, b int, order []int) {
	t.Helper()
	parts, whole := impl.StewCalm(impl.StewCalm(w, a, order), b, order), impl.StewCalm(w, a+b, order)
	if !sameStewWorld(parts, whole) || !impl.StewWorldOk(whole) {
		t.Fatalf("promise 31: %d and %d rounds in the order %v lead to %+v\nand all of them to %+v", a, b, order, parts, whole)
	}
}

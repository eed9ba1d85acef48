package tests

import (
	"fmt"
	"math"
	"math/rand"
	"reflect"
	"runtime"
	"slices"
	"sync"
	"testing"
	"time"

	"loop.example/wharffleet/impl"
)

// greatStewWorld has as many books as there may be, each with the most of all.
func greatStewWorld() impl.StewWorld {
	var w impl.StewWorld
	for i := range 9 {
		b := greatBook(8, 200, 6)
		b.Now = 999990 + i
		for j := range b.Services {
			b.Services[j].Version = 999990
		}
		for j := range b.Copies {
			b.Copies[j].Version = 999990
		}
		w.Past = append(w.Past, b)
	}
	w.Past, w.Book = w.Past[:8], w.Past[8]
	return w
}

func TestStewWorldGreat(t *testing.T) {
	w := greatStewWorld()
	checkStewWorldOk(t, "a great one", w)
	for steward := impl.StewCounter; steward <= impl.StewDrainer; steward++ {
		for _, age := range []int{0, 8, math.MaxInt} {
			next, codes := checkMove(t, "a great one", w, impl.StewMove{Steward: steward, Age: age})
			if steward == impl.StewMender && (fmt.Sprint(codes) != "[0 0 7 7 7 7 7 7]" || nowsOf(next) != "999992 999993 999994 999995 999996 999997 999998 999999 | 1000000") {
				t.Errorf("codes %v: %s", codes, nowsOf(next))
			}
		}
	}
	for _, e := range seaEvents() {
		checkMove(t, "a great one", w, impl.StewMove{Event: e})
	}
	checkStewCalm(t, "a great one", w, 2, 3, 1)
	inGoodTime(t, "a great one in as many rounds as may be", func() {
		w := greatStewWorld()
		for i := range w.Past {
			w.Past[i].Now = 900000
		}
		w.Book.Now = 900000
		for _, b := range modelBooks(w) {
			for i := range b.Services {
				b.Services[i].Version, b.Services[i].Next, b.Services[i].Cool = 900000, 900000, 0
			}
			for i := range b.Copies {
				b.Copies[i].Version, b.Copies[i].Number = 900000, i+1
			}
			b.Berths[5].Drain = false
		}
		checkStewWorldOk(t, "a great one", w)
		calm := impl.StewCalm(w, 1000, []int{6, 5, 4, 3, 2, 1})
		if !impl.StewDone(calm.Book) || !impl.StewWorldOk(calm) || len(calm.Book.Copies) != 80 {
			t.Errorf("%v is left to do, and there are %d copies", impl.StewRank(calm.Book), len(calm.Book.Copies))
		}
	})
}

// The greatest and the least int, and those next to limits, as every number of a world and of a move, one by one and all at once.
func TestStewWorldFarthestNumbers(t *testing.T) {
	t.Parallel()
	world := func() impl.StewWorld {
		return impl.StewWorld{Past: []impl.StewBook{fullBook()}, Book: crewBook(2, 1, 1, "ro", "f", "r")}
	}
	numbersIn := func(w *impl.StewWorld) []reflect.Value {
		return partsOf(reflect.ValueOf(w).Elem(), reflect.Int)
	}
	move := func(steward int, e impl.StewEvent) impl.StewMove {
		return impl.StewMove{Steward: steward, Age: 1, Event: e}
	}
	for _, n := range []int{math.MinInt, -1, 0, 1, 1000000, 1000001, math.MaxInt} {
		whole := world()
		for i := range numbersIn(&whole) {
			w := world()
			numbersIn(&w)[i].SetInt(int64(n))
			for _, m := range []impl.StewMove{{}, {Steward: 1}, {Steward: 3, Age: 1}, {Event: impl.StewEvent{Kind: impl.StewTick}}} {
				checkMove(t, fmt.Sprintf("number %d is %d", i, n), w, m)
			}
			checkStewCalm(t, fmt.Sprintf("number %d is %d", i, n), w, 1)
		}
		for _, number := range numbersIn(&whole) {
			number.SetInt(int64(n))
		}
		checkNoStewWorld(t, fmt.Sprint("all are ", n), whole)
		for kind := range seaEvents() {
			m := move(0, seaEvents()[kind])
			all := partsOf(reflect.ValueOf(&m).Elem(), reflect.Int)
			if len(all) != 2+2+11 {
				t.Fatalf("a move has %d numbers", len(all))
			}
			for i := range all {
				for steward := 0; steward <= 6; steward++ {
					m := move(steward, seaEvents()[kind])
					partsOf(reflect.ValueOf(&m).Elem(), reflect.Int)[i].SetInt(int64(n))
					checkMove(t, fmt.Sprintf("the move's number %d is %d", i, n), impl.StewWorld{Past: []impl.StewBook{fullBook()}, Book: fullBook()}, m)
				}
			}
			for _, number := range all {
				number.SetInt(int64(n))
			}
			checkMove(t, fmt.Sprint("all of the move are ", n), impl.StewWorld{Past: []impl.StewBook{fullBook()}, Book: fullBook()}, m)
		}
		checkStewCalm(t, fmt.Sprint("rounds and order are ", n), impl.StewWorld{}, n, n, n)
	}
}

// stewWorldWithRoom has room behind the ends of its lists, filled, so that a write there is seen.
func stewWorldWithRoom(w impl.StewWorld) impl.StewWorld {
	past := make([]impl.StewBook, 0, len(w.Past)+2)
	for _, b := range append(slices.Clone(w.Past), fullBook(), actBook()) {
		past = append(past, bookWithRoom(b))
	}
	return impl.StewWorld{Past: past[:len(w.Past)], Book: bookWithRoom(w.Book)}
}

// wholeStewWorld is such a world with what stands behind its ends.
func wholeStewWorld(w impl.StewWorld) impl.StewWorld {
	whole := impl.StewWorld{Book: wholeBook(w.Book)}
	for _, b := range w.Past[:len(w.Past)+2] {
		whole.Past = append(whole.Past, wholeBook(b))
	}
	return whole
}

// checkStewMemory holds that a world, a move and an order are as they were, also behind their ends, and that what comes back shares no memory with them, and no two lists of it share any.
func checkStewMemory(t *testing.T, w impl.StewWorld, m impl.StewMove, rounds int, order []int) []int {
	t.Helper()
	w = stewWorldWithRoom(w)
	m.Event = seaEventWithOwnTexts(m.Event)
	order = append(slices.Clone(order), 6, 5)[:len(order)]
	before, moveBefore, orderBefore := wholeStewWorld(w), m, slices.Clone(order[:len(order)+2])
	next, codes := impl.StewDo(w, m)
	calm := impl.StewCalm(w, rounds, order)
	ok := impl.StewWorldOk(w)
	if !reflect.DeepEqual(wholeStewWorld(w), before) || m != moveBefore || !slices.Equal(order[:len(order)+2], orderBefore) {
		t.Errorf("the arguments were %+v, %+v, %v, and are %+v, %+v, %v", before, moveBefore, orderBefore, w, m, order)
	}
	arguments := []any{w, m, order}
	checkOwnMemory(t, arguments, []any{next, codes, calm})
	checkOwnTexts(t, arguments, []any{next, calm})
	alone := plainStewWorld(w)
	sameNext, sameCodes := impl.StewDo(alone, m)
	if !sameStewWorld(sameNext, next) || !slices.Equal(sameCodes, codes) || !sameStewWorld(impl.StewCalm(alone, rounds, order), calm) || impl.StewWorldOk(alone) != ok {
		t.Errorf("what stands behind is asked: %+v of %+v", m, w)
	}
	return codes
}

func TestStewWorldMemory(t *testing.T) {
	t.Parallel()
	r := rand.New(rand.NewSource(253))
	met := map[string]int{}
	for _, w := range []impl.StewWorld{{}, {Book: fullBook()}, {Past: []impl.StewBook{fullBook(), fullBook()}, Book: actBook()}, {Past: make([]impl.StewBook, 8), Book: turnsBook()}, {Past: make([]impl.StewBook, 9)}} {
		for steward := 0; steward <= 7; steward++ {
			for age := range 3 {
				checkStewMemory(t, w, impl.StewMove{Steward: steward, Age: age}, age, []int{steward, 3})
			}
		}
		for _, e := range seaEvents() {
			checkStewMemory(t, w, impl.StewMove{Event: e}, 0, nil)
		}
	}
	for i := range 120 {
		w := randomStewWorld(r)
		for len(w.Book.Copies) > 60 {
			w = randomStewWorld(r)
		}
		if i%10 == 0 {
			breakStewWorld(r, &w)
		}
		codes := checkStewMemory(t, w, randomMove(r, w), r.Intn(4), randomOrder(r))
		met[fmt.Sprint("acts ", min(2, len(codes)))]++
		for _, code := range codes {
			met[fmt.Sprint("code ", min(1, code))]++
		}
		if t.Failed() {
			return
		}
	}
	for _, what := range []string{"acts 0", "acts 1", "acts 2", "code 0", "code 1"} {
		if met[what] < 10 {
			t.Errorf("%q: the moves tell too little: %v", what, met)
		}
	}
}

// Books of one world that share their lists with one another come back apart.
func TestStewWorldOfSharedBooks(t *testing.T) {
	for _, b := range []impl.StewBook{fullBook(), actBook(), turnsBook()} {
		w := impl.StewWorld{Past: slices.Repeat([]impl.StewBook{b}, 8), Book: b}
		for steward := 0; steward <= 6; steward++ {
			next, codes := checkMove(t, "shared", w, impl.StewMove{Steward: steward, Age: steward})
			calm := impl.StewCalm(w, steward, nil)
			checkOwnMemory(t, []any{w}, []any{next, codes, calm})
			checkOwnTexts(t, []any{b}, []any{next, calm})
		}
	}
}

// What is written into an answer is not seen in another answer to the same, nor in the arguments.
func TestStewWorldAnswersAreTheirOwn(t *testing.T) {
	world := func() impl.StewWorld {
		return impl.StewWorld{Past: []impl.StewBook{fullBook(), bookAt(40, turnsBook())}, Book: actBook()}
	}
	clearAll := func(w impl.StewWorld) {
		for _, b := range modelBooks(w) {
			clear(b.Services[:cap(b.Services)])
			clear(b.Copies[:cap(b.Copies)])
			clear(b.Berths[:cap(b.Berths)])
		}
		clear(w.Past[:cap(w.Past)])
	}
	for steward := 0; steward <= 6; steward++ {
		w, m := world(), impl.StewMove{Steward: steward, Event: impl.StewEvent{Kind: impl.StewTick}}
		first, codes := impl.StewDo(w, m)
		second, secondCodes := impl.StewDo(w, m)
		calm, secondCalm := impl.StewCalm(w, steward, nil), impl.StewCalm(w, steward, nil)
		before, calmBefore := plainStewWorld(first), plainStewWorld(calm)
		codesBefore := slices.Clone(codes)
		clearAll(second)
		clearAll(secondCalm)
		for i := range secondCodes {
			secondCodes[i] = -1
		}
		if !sameStewWorld(first, before) || !sameStewWorld(calm, calmBefore) || !slices.Equal(codes, codesBefore) || !sameStewWorld(w, world()) {
			t.Errorf("steward %d: the answer or the argument has changed", steward)
		}
	}
}

// An answer does not hang on how goroutines run: the same call gives the same, many times, and many at a time.
func TestStewWorldAnyScheduling(t *testing.T) {
	r := rand.New(rand.NewSource(254))
	for i := range 12 {
		w, m, order := randomStewWorld(r), impl.StewMove{Steward: 1 + i%6, Age: r.Intn(3)}, randomOrder(r)
		if i == 0 {
			w = impl.StewWorld{Book: turnsBook()}
		}
		next, codes := modelMove(w, m)
		calm := modelStewCalm(w, 3, order)
		var all sync.WaitGroup
		for range 8 {
			all.Go(func() {
				for range 10 {
					got, gotCodes := impl.StewDo(w, m)
					if !sameStewWorld(got, next) || !slices.Equal(gotCodes, codes) || !sameStewWorld(impl.StewCalm(w, 3, order), calm) {
						t.Error("the same call gives another answer")
						return
					}
				}
			})
		}
		all.Wait()
	}
}

// What a call starts has ended when it answers.
func TestStewWorldLeavesNothingBehind(t *testing.T) {
	before := runtime.NumGoroutine()
	for range 100 {
		for _, w := range []impl.StewWorld{{}, {Book: turnsBook()}, {Past: make([]impl.StewBook, 9)}} {
			for steward := 0; steward <= 6; steward++ {
				impl.StewDo(w, impl.StewMove{Steward: steward, Age: 1})
			}
			for rounds := -1; rounds <= 2; rounds++ {
				impl.StewCalm(w, rounds, []int{3})
			}
		}
	}
	for range 100 {
		if runtime.NumGoroutine() <= before {
			return
		}
		time.Sleep(time.Millisecond)
	}
	t.Errorf("%d goroutines, and %d before", runtime.NumGoroutine(), before)
}

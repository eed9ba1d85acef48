package tests

import (
	"fmt"
	"math"
	"math/rand"
	"reflect"
	"slices"
	"strings"
	"testing"

	"loop.example/wharffleet/impl"
)

// checkPromise24: each act is done with code 0 in the book that the steward saw, or there is no room for it.
func checkPromise24(t *testing.T, what string, b impl.StewBook, acts []impl.StewAct) {
	t.Helper()
	for _, a := range acts {
		_, code := impl.StewApply(b, a)
		if code == 0 || code == 7 && hasNoRoom(b, a) {
			continue
		}
		t.Errorf("%s: %+v has code %d in what was seen: %+v", what, a, code, b)
	}
}

// hasNoRoom is why an act that could be done is not: versions, numbers or copies are at their end.
func hasNoRoom(b impl.StewBook, a impl.StewAct) bool {
	next := 0
	for _, s := range b.Services {
		if s.Name == a.Service {
			next = s.Next
		}
	}
	return b.Now == 1000000 || a.Create > 0 && (next+a.Create > 1000000 || len(b.Copies)+a.Create > 200)
}

// Promise 24, for each kind: each act by itself as the second reading does it, and all of them one after the other, as none touches what another one saw.
func TestPromise24(t *testing.T) {
	t.Parallel()
	r := rand.New(rand.NewSource(224))
	met := map[string]int{}
	for i := range 3500 {
		b := pickOf(r, randomBook, stewardsBook, edgeBook)(r)
		if i%10 == 0 {
			b = crowdedBook(r)
		}
		for kind := impl.StewCounter; kind <= impl.StewDrainer; kind++ {
			next := b
			for _, a := range impl.StewAsk(kind, b) {
				_, code := checkApply(t, "as seen", b, a)
				met[fmt.Sprint(kind, " ", kindOfAct(a), code)]++
				if code != 0 && (code != 7 || !hasNoRoom(b, a)) {
					t.Errorf("%+v has code %d: %+v", a, code, b)
				}
				behind, code := impl.StewApply(next, a)
				if code != 0 && (code != 7 || !hasNoRoom(next, a)) {
					t.Errorf("%+v has code %d behind others: %+v", a, code, next)
				}
				next = behind
			}
		}
		if t.Failed() {
			return
		}
	}
	for _, what := range []string{
		"1 create 0", "1 create 7", "1 ends 0", "1 ends 7", "2 create 0", "2 create 7", "2 ends 0", "2 ends 7", "3 ends 0", "3 ends 7",
		"4 scale 0", "4 scale 7", "5 ends 0", "5 ends 7", "5 drop 0", "5 drop 7", "6 create 0", "6 create 7", "6 ends 0", "6 ends 7",
	} {
		if met[what] < 50 {
			t.Errorf("%q was met %d times: the books tell too little", what, met[what])
		}
	}
}

// Promise 24 at the ends of what there is room for: just so many, and one more. What creates none needs a version alone.
func TestPromise24AtTheEnds(t *testing.T) {
	for _, c := range []struct {
		kind    int
		creates bool
		book    func() impl.StewBook
	}{
		{impl.StewCounter, true, func() impl.StewBook { return crewBook(2, 1, 1, "r") }},
		{impl.StewWaver, true, func() impl.StewBook { return crewBook(2, 1, 1, "ro", "r") }},
		{impl.StewDrainer, true, func() impl.StewBook { return crewBook(2, 1, 1, "rd", "r") }},
		{impl.StewCounter, false, func() impl.StewBook { return crewBook(2, 1, 1, "r", "r", "r") }},
		{impl.StewWaver, false, func() impl.StewBook { return crewBook(2, 1, 1, "ro", "r", "r") }},
		{impl.StewMender, false, func() impl.StewBook { return crewBook(2, 1, 1, "r", "f") }},
		{impl.StewScaler, false, func() impl.StewBook { return loadBook(1, 0, 5, 5, 0, 0) }},
		{impl.StewSweeper, false, func() impl.StewBook { return goneBook("r", "w") }},
		{impl.StewSweeper, false, func() impl.StewBook { return goneBook() }},
		{impl.StewDrainer, false, func() impl.StewBook { return crewBook(2, 1, 1, "rd", "r", "r") }},
	} {
		check := func(what string, isFull bool, change func(b *impl.StewBook)) {
			t.Helper()
			b := c.book()
			change(&b)
			checkValidBook(t, what, b, "")
			acts := checkSteward(t, what, c.kind, b)
			if len(acts) != 1 || (acts[0].Create > 0) != c.creates {
				t.Fatalf("%s: steward %d asks for %+v of %+v", what, c.kind, acts, b)
			}
			if _, code := checkApply(t, what, b, acts[0]); code != map[bool]int{true: 7}[isFull] {
				t.Errorf("%s: %+v has code %d", what, acts[0], code)
			}
		}
		for _, n := range []int{999998, 999999, 1000000} {
			check(fmt.Sprint("now ", n), n == 1000000, func(b *impl.StewBook) { b.Now = n })
			check(fmt.Sprint("next ", n), c.creates && n == 1000000, func(b *impl.StewBook) { b.Services[0].Next = n })
		}
		for _, n := range []int{198, 199, 200} {
			check(fmt.Sprint("copies ", n), c.creates && n == 200, func(b *impl.StewBook) { fillWithEnding(b, n) })
		}
	}
	// What is asked for is not less where there is room for some of it alone.
	for _, n := range []int{999991, 999990} {
		b := crewBook(10, 1, 1)
		b.Services[0].Next = n
		acts := checkSteward(t, "ten more", impl.StewCounter, b)
		if len(acts) != 1 || acts[0].Create != 10 {
			t.Fatalf("%+v", acts)
		}
		checkCode(t, fmt.Sprint("next ", n), b, acts[0], map[int]int{999991: 7}[n])
	}
	for _, n := range []int{191, 190} {
		b := crewBook(10, 1, 1)
		fillWithEnding(&b, n)
		acts := checkSteward(t, "ten more", impl.StewCounter, b)
		if len(acts) != 1 || acts[0].Create != 10 {
			t.Fatalf("%+v", acts)
		}
		checkCode(t, fmt.Sprint("copies ", n), b, acts[0], map[int]int{191: 7}[n])
	}
}

// fillWithEnding adds a service, the last one, with so many copies that there are this many in all; no steward asks for any of them.
func fillWithEnding(b *impl.StewBook, copies int) {
	b.Services = append(b.Services, impl.StewService{Name: "zzz", Version: 1, Image: 1, Over: 1, Next: 1000})
	for i := 1; len(b.Copies) < copies; i++ {
		b.Copies = append(b.Copies, impl.StewCopy{Service: "zzz", Number: i, Version: 1, Image: 1, State: impl.StewWaiting, Ending: true})
	}
}

// Promise 24 in lives of books: what is asked for now is done now, and by a view that is late it is done or refused, but for no other reason than that, harm, or room.
func TestPromise24InLives(t *testing.T) {
	t.Parallel()
	r := rand.New(rand.NewSource(225))
	met := map[string]int{}
	for range 300 {
		b := stewardsBook(r)
		for b.Now > 900000 || len(b.Berths) == 0 || len(b.Services) == 0 {
			b = stewardsBook(r)
		}
		past := []impl.StewBook{b}
		for range 40 {
			age := pickOf(r, 0, 0, 1, 3)
			view := past[max(0, len(past)-1-age)]
			for _, a := range checkSteward(t, "a view", 1+r.Intn(6), view) {
				late := seenLate(b, a)
				next, code := checkApply(t, "of a view", b, a)
				met[fmt.Sprint(late, " ", code)]++
				if late && code != 3 && code != 4 || age == 0 && late {
					t.Fatalf("%+v (late: %v) has code %d: %+v", a, late, code, b)
				}
				if code == 0 {
					past = append(past, next)
				}
				b = next
			}
			if r.Intn(2) == 0 {
				b = happen(r, b)
				past = append(past, b)
			}
			if t.Failed() {
				return
			}
		}
	}
	for _, what := range []string{"false 0", "true 4"} {
		if met[what] < 500 {
			t.Errorf("the lives tell too little: %v", met)
		}
	}
}

// What promise 28 says of stewards: where each service has just what is wanted, none asks for anything; and each thing that is not so is some steward's care, or must be waited for.
func TestPromise28StandsOnStewards(t *testing.T) {
	done := func() impl.StewBook {
		b := manyServices(crewBook(3, 1, 1, "r", "r", "r"), 1, 4, 7)
		s := &b.Services[4]
		s.Per, s.Least, s.Most, s.Load = 10, 1, 5, 25
		return b
	}
	for what, c := range map[string]struct {
		want   string
		change func(b *impl.StewBook)
	}{
		"done":               {"", func(b *impl.StewBook) {}},
		"one is gone":        {"5 a -1 -2 -3", func(b *impl.StewBook) { b.Services[1].Gone = true }},
		"one more is wanted": {"1 a +1", func(b *impl.StewBook) { b.Services[1].Want++ }},
		"one less is wanted": {"1 a -3", func(b *impl.StewBook) { b.Services[1].Want-- }},
		"another image":      {"2 a +1", func(b *impl.StewBook) { b.Services[1].Image++ }},
		"one has failed":     {"3 a -3", func(b *impl.StewBook) { b.Copies[4].State = impl.StewFailed }},
		"one is to go":       {"6 a +1", func(b *impl.StewBook) { b.Copies[3].Berth = "b" }},
		"one is Ending":      {"1 a +1", func(b *impl.StewBook) { b.Copies[3].Ending = true }},
		"one is not there":   {"1 a +1", func(b *impl.StewBook) { b.Copies = slices.Delete(b.Copies, 3, 4) }},
		"one starts":         {"", func(b *impl.StewBook) { b.Copies[3].State = impl.StewStarting }},
		"one waits":          {"", func(b *impl.StewBook) { b.Copies[3].State, b.Copies[3].Berth = impl.StewWaiting, "" }},
		"more load":          {"4 aa =4/0", func(b *impl.StewBook) { b.Services[4].Load = 31 }},
		"less load":          {"4 aa =3/1", func(b *impl.StewBook) { b.Services[4].Load = 20 }},
		"some cool":          {"4 aa =3/0", func(b *impl.StewBook) { b.Services[4].Cool = 1 }},
	} {
		b := done()
		c.change(&b)
		if got := askedOf(t, what, b); got != c.want {
			t.Errorf("%s: %q, not %q", what, got, c.want)
		}
	}
}

// Stewards who look anew again and again come to an end: with what waits and starts made ready, and what is Ending taken away, they lead to a book of which none asks for anything.
func TestStewardsComeToAnEnd(t *testing.T) {
	t.Parallel()
	r := rand.New(rand.NewSource(226))
	for range 150 {
		b := stewardsBook(r)
		for b.Now > 900000 || len(b.Berths) == 0 {
			b = stewardsBook(r)
		}
		b.Berths[0].Drain = false
		for i := range b.Services {
			b.Services[i].Next = 100
		}
		quiet := false
		for round := 0; !quiet && round < 300; round++ {
			quiet = true
			for _, kind := range r.Perm(6) {
				for _, a := range checkSteward(t, "a round", kind+1, b) {
					next, code := impl.StewApply(b, a)
					if code != 0 {
						t.Fatalf("%+v has code %d: %+v", a, code, b)
					}
					b, quiet = next, false
				}
			}
			b = allReady(b)
		}
		if !quiet {
			t.Fatalf("they go on and on: %+v", b)
		}
		for _, s := range b.Services {
			n := impl.StewCountOf(b, s.Name)
			if s.Gone || n != (impl.StewCount{Live: s.Want, Ready: s.Want}) || s.Per > 0 && (s.Want != modelDue(s) || s.Cool != 0) {
				t.Fatalf("%+v has %+v", s, n)
			}
		}
	}
}

// allReady takes away what is Ending, and makes ready what waits or starts, on the first berth.
func allReady(b impl.StewBook) impl.StewBook {
	b = cloneBook(b)
	b.Now++
	b.Copies = slices.DeleteFunc(b.Copies, func(c impl.StewCopy) bool { return c.Ending })
	for i := range b.Copies {
		c := &b.Copies[i]
		if c.State == impl.StewWaiting {
			c.Berth = b.Berths[0].Name
		}
		if c.State == impl.StewWaiting || c.State == impl.StewStarting {
			c.State, c.Version = impl.StewReady, b.Now
		}
	}
	return b
}

// The greatest and the least int as every number of a view, and as all of them.
func TestStewAskFarthestNumbers(t *testing.T) {
	for _, n := range []int{math.MinInt, math.MinInt + 1, -1, 0, 1, 1000000, 1000001, math.MaxInt - 1, math.MaxInt} {
		for _, base := range []func() impl.StewBook{fullBook, actBook, func() impl.StewBook { return crewBook(2, 1, 0, "r", "rd") }} {
			whole := base()
			for _, number := range numbersOf(&whole) {
				number.SetInt(int64(n))
			}
			for kind := 0; kind <= 7; kind++ {
				checkSteward(t, fmt.Sprint("all are ", n), kind, whole)
			}
			for i := range numbersOf(&whole) {
				b := base()
				numbersOf(&b)[i].SetInt(int64(n))
				for kind := 0; kind <= 7; kind++ {
					checkSteward(t, fmt.Sprintf("number %d is %d", i, n), kind, b)
				}
			}
		}
	}
}

func TestStewAskGreat(t *testing.T) {
	b := greatBook(8, 200, 6)
	for kind, want := range map[int]int{impl.StewCounter: 1, impl.StewMender: 25, impl.StewDrainer: 1} {
		acts := checkSteward(t, "a great book", kind, b)
		if len(acts) != 8 {
			t.Fatalf("steward %d asks for %+v", kind, acts)
		}
		for i, a := range acts {
			last := impl.StewEnd{Number: 999824 + 25*i, Seen: 1000000}
			if len(a.Ends) != want || a.Ends[want-1] != last {
				t.Errorf("steward %d asks for %+v", kind, a)
			}
		}
	}
	for what, c := range map[string]struct {
		kind   int
		change func(b *impl.StewBook)
	}{
		"all have failed": {impl.StewMender, func(b *impl.StewBook) {}},
		"all are swept":   {impl.StewSweeper, func(b *impl.StewBook) { b.Services[0].Gone = true }},
	} {
		one := greatBook(1, 200, 6)
		one.Now, one.Services[0].Version = 999999, 999999
		for i := range one.Copies {
			one.Copies[i].Version = 999999
		}
		c.change(&one)
		acts := checkSteward(t, what, c.kind, one)
		if len(acts) != 1 || len(acts[0].Ends) != 200 {
			t.Fatalf("%s: %+v", what, acts)
		}
		next := checkCode(t, what, one, acts[0], 0)
		if got := impl.StewCountOf(next, acts[0].Service); got != (impl.StewCount{Ending: 200}) {
			t.Errorf("%s: %+v", what, got)
		}
	}
	inGoodTime(t, "texts that are far too long", func() {
		long := strings.Repeat("a", 10000000)
		b := actBook()
		b.Services[0].Name, b.Berths[0].Name, b.Copies[0].Service = long, long, long
		for kind := 0; kind <= 7; kind++ {
			if got := impl.StewAsk(kind, b); len(got) > 0 {
				t.Errorf("steward %d asks for %d acts", kind, len(got))
			}
		}
	})
}

// The view is as it was, also behind its ends; what comes back shares no memory with it, nor one act with another.
func TestStewAskMemory(t *testing.T) {
	t.Parallel()
	r := rand.New(rand.NewSource(227))
	many := map[int]int{}
	check := func(b impl.StewBook) {
		for kind := 0; kind <= 7; kind++ {
			checkBookUnchanged(t, b, func(b impl.StewBook) {
				acts := impl.StewAsk(kind, b)
				checkOwnMemory(t, []any{b}, []any{acts})
				checkOwnTexts(t, []any{b}, []any{acts})
				if alone := impl.StewAsk(kind, cloneBook(b)); !reflect.DeepEqual(plainActs(acts), plainActs(alone)) {
					t.Errorf("what stands behind is asked: steward %d of %+v", kind, b)
				}
				if len(acts) > 1 {
					many[kind]++
				}
			})
		}
	}
	for _, b := range []impl.StewBook{{}, fullBook(), actBook(), greatBook(8, 200, 6), greatBook(8, 201, 6), manyServices(goneBook("r", "f"), 0, 1, 2)} {
		check(b)
	}
	for i := range 500 {
		b := stewardsBook(r)
		if i%10 == 0 {
			breakBook(r, &b)
		}
		check(b)
		if t.Failed() {
			return
		}
	}
	for kind := impl.StewCounter; kind <= impl.StewDrainer; kind++ {
		if many[kind] < 20 {
			t.Errorf("steward %d: the books tell too little: %v", kind, many)
		}
	}
}

// What is written into an answer is not seen in another answer to the same, nor in the view.
func TestStewAskAnswersAreTheirOwn(t *testing.T) {
	for kind := impl.StewCounter; kind <= impl.StewDrainer; kind++ {
		b := actBook()
		first, second := impl.StewAsk(kind, b), impl.StewAsk(kind, b)
		before := plainActs(first)
		for _, a := range second {
			clear(a.Ends[:cap(a.Ends)])
		}
		clear(second[:cap(second)])
		if !reflect.DeepEqual(plainActs(first), before) || !sameBook(b, actBook()) {
			t.Errorf("steward %d: the answer or the view has changed", kind)
		}
		checkOwnMemory(t, []any{b}, []any{first, second})
	}
}

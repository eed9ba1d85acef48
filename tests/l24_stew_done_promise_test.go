package tests

import (
	"fmt"
	"math/rand"
	"slices"
	"testing"

	"loop.example/wharffleet/impl"
)

// checkPromise27: a book is done exactly if its rank is all 0, no copy is Ending, all that follow their load have the Want that chapter 22 calls D, and Cool 0, and it is valid.
func checkPromise27(t *testing.T, what string, b impl.StewBook, done bool, rank []int) {
	t.Helper()
	if len(rank) != 5 || slices.Min(rank) < 0 {
		t.Errorf("%s: a rank of %v", what, rank)
		return
	}
	wanted := impl.StewValid(b) && slices.Max(rank) == 0
	for _, c := range b.Copies {
		wanted = wanted && !c.Ending
	}
	for _, s := range b.Services {
		wanted = wanted && (s.Per == 0 || s.Want == modelDue(s) && s.Cool == 0)
	}
	if done != wanted {
		t.Errorf("%s: done %v, and the rank is %v: %+v", what, done, rank, b)
	}
}

// checkPromise28: at a book that is done no steward asks for anything, and a StewTick changes nothing but Now.
func checkPromise28(t *testing.T, what string, b impl.StewBook, done bool) {
	t.Helper()
	if !done {
		return
	}
	for kind := impl.StewCounter; kind <= impl.StewDrainer; kind++ {
		if acts := impl.StewAsk(kind, b); len(acts) > 0 {
			t.Errorf("%s: the book is done, and steward %d asks for %+v: %+v", what, kind, acts, b)
		}
	}
	next, code := impl.StewSea(b, impl.StewEvent{Kind: impl.StewTick})
	want := plainBook(b)
	if b.Now == 1000000 {
		if code != 7 || !sameBook(next, want) {
			t.Errorf("%s: a tick at the end gives %d, %+v", what, code, next)
		}
		return
	}
	if want.Now++; code != 0 || !sameBook(next, want) || !impl.StewDone(next) {
		t.Errorf("%s: a tick gives %d, %+v\nof %+v", what, code, next, b)
	}
}

// randomDoneBook is drawn, and done.
func randomDoneBook(r *rand.Rand) impl.StewBook {
	b := readyBook(r)
	open := slices.DeleteFunc(slices.Clone(b.Berths), func(h impl.StewBerth) bool { return h.Drain })
	copies := b.Copies
	b.Copies = nil
	for i := range b.Services {
		s := &b.Services[i]
		s.Gone, s.Want, s.Cool = false, 0, 0
		for _, c := range copies {
			if c.Service == s.Name && len(open) > 0 && s.Want < 10 && r.Intn(4) > 0 {
				c.Image, c.State, c.Ending, c.Berth = s.Image, impl.StewReady, false, pickOf(r, open...).Name
				b.Copies = append(b.Copies, c)
				s.Want++
			}
		}
		if s.Per > 0 {
			s.Least, s.Most, s.Load = r.Intn(s.Want+1), s.Want+r.Intn(11-s.Want), max(0, s.Want*s.Per-r.Intn(s.Per))
			if r.Intn(5) == 0 {
				s.Least, s.Load = s.Want, r.Intn(s.Load+1)
			}
			if r.Intn(5) == 0 {
				s.Most, s.Load = s.Want, s.Load+r.Intn(100)
			}
		}
	}
	return b
}

// undoBook changes one thing, behind which a book that was done mostly is not, but mostly still is valid.
func undoBook(r *rand.Rand, b *impl.StewBook) {
	if len(b.Services) == 0 {
		return
	}
	s := &b.Services[r.Intn(len(b.Services))]
	switch what := r.Intn(12); {
	case what == 0:
		s.Gone = true
	case what == 1:
		s.Want = max(0, min(10, s.Want+pickOf(r, -1, 1)))
	case what == 2:
		s.Image++
	case what == 3 && s.Per > 0:
		s.Cool = r.Intn(4)
	case what == 4 && s.Per > 0:
		s.Load = max(0, s.Load+pickOf(r, -s.Per, s.Per, -1, 1))
	case what == 5 && len(b.Berths) > 0:
		b.Berths[r.Intn(len(b.Berths))].Drain = r.Intn(2) == 0
	case what > 5 && len(b.Copies) > 0:
		at := r.Intn(len(b.Copies))
		c := &b.Copies[at]
		switch r.Intn(7) {
		case 0:
			c.Ending = true
		case 6: // and it is not missed
			c.Ending = true
			of := &b.Services[slices.IndexFunc(b.Services, func(s impl.StewService) bool { return s.Name == c.Service })]
			of.Want = max(0, of.Want-1)
		case 1:
			c.Image = 1 + r.Intn(3)
		case 2:
			c.State = pickOf(r, impl.StewStarting, impl.StewReady, impl.StewFailed)
		case 3:
			c.State, c.Berth = impl.StewWaiting, ""
		case 4:
			c.Berth = pickOf(r, b.Berths...).Name
		case 5:
			b.Copies = slices.Delete(b.Copies, at, at+1)
		}
	}
}

// Promises 27 and 28 over many books, done and nearly done, and any.
func TestPromises27And28(t *testing.T) {
	t.Parallel()
	r := rand.New(rand.NewSource(242))
	met := map[string]int{}
	for i := range 15000 {
		b := randomDoneBook(r)
		if done, _ := checkStewDone(t, "a book that is done", b); !done {
			t.Fatalf("it is not done: %+v", b)
		}
		switch i % 4 {
		case 0:
			b = pickOf(r, randomBook, stewardsBook, crowdedBook)(r)
		case 1:
			breakBook(r, &b)
		default:
			for range 1 + r.Intn(3) {
				undoBook(r, &b)
			}
		}
		done, rank := checkStewDone(t, "another one", b)
		met[fmt.Sprint("done ", done)]++
		alone := 0
		for place, n := range rank {
			if n > 0 {
				alone += 1 + 10*place
			}
		}
		met[fmt.Sprint("ranks ", alone)]++
		for _, what := range modelSet(modelLeftToDo(b)) {
			met[what]++
		}
		if t.Failed() {
			return
		}
	}
	// Each thing that is left to do, each number alone, and nothing but a load to follow.
	for _, what := range []string{
		"done true", "done false", "0 gone", "1 ending or of one that is gone", "2 missing", "2 too many", "3 old or to go", "4 not ready", "- want", "- cool",
		"ranks 0", "ranks 1", "ranks 11", "ranks 21", "ranks 31", "ranks 41",
	} {
		if met[what] < 100 {
			t.Errorf("%q was met %d times: the books tell too little", what, met[what])
		}
	}
}

// A book that is not done is some steward's care, or a tick changes it, or there is nowhere for it to go on: as long as it is not at its end, and has a berth that is not to be drained, something is left to happen.
func TestStewDoneOrSomethingToDo(t *testing.T) {
	t.Parallel()
	r := rand.New(rand.NewSource(243))
	met := map[string]int{}
	for range 4000 {
		b := stewardsBook(r)
		if r.Intn(2) == 0 {
			b = randomDoneBook(r)
			undoBook(r, &b)
		}
		if b.Now == 1000000 || !slices.ContainsFunc(b.Berths, func(h impl.StewBerth) bool { return !h.Drain }) {
			continue
		}
		done, _ := checkStewDone(t, "a drawn book", b)
		next, _ := impl.StewSea(b, impl.StewEvent{Kind: impl.StewTick})
		ticks := !slices.Equal(next.Copies, b.Copies)
		asks := askedOf(t, "a drawn book", b) != ""
		if done == (ticks || asks) {
			t.Fatalf("done %v, a tick changes it %v, stewards ask %v: %+v", done, ticks, asks, b)
		}
		met[fmt.Sprint(done, ticks, asks)]++
	}
	for _, what := range []string{"true false false", "false true false", "false false true", "false true true"} {
		if met[what] < 30 {
			t.Errorf("the books tell too little: %v", met)
		}
	}
}

// Promise 23 in lives of books: events of all kinds, and acts of stewards between them, from nothing on. What each tells is as it is read.
func TestPromise23InLives(t *testing.T) {
	t.Parallel()
	r := rand.New(rand.NewSource(244))
	met := map[string]int{}
	for range 120 {
		b := impl.StewBook{}
		for range 120 {
			e := randomSeaEvent(r, b)
			if len(b.Berths) < 2 || e.Kind == impl.StewSink && r.Intn(3) > 0 {
				e.Kind, e.Name, e.Flag = impl.StewRaise, pickOf(r, "x", "y", "z"), r.Intn(4) == 0
			}
			if e.Kind == impl.StewWish && r.Intn(3) > 0 || r.Intn(3) == 0 {
				e.Kind = impl.StewTick
			}
			if r.Intn(10) == 0 {
				breakSeaEvent(r, &e)
			}
			next, code := checkSea(t, "a life", b, e)
			met[fmt.Sprint("kind ", e.Kind, " code ", code)]++
			b = next
			for _, a := range impl.StewAsk(1+r.Intn(6), b) {
				next, code := checkApply(t, "a life", b, a)
				if code != 0 {
					t.Errorf("%+v has code %d: %+v", a, code, b)
				}
				b = next
			}
			checkStewDone(t, "a life", b)
			if t.Failed() {
				return
			}
		}
		met["copies"] += len(b.Copies)
	}
	for kind := impl.StewTick; kind <= impl.StewLoad; kind++ {
		if met[fmt.Sprint("kind ", kind, " code 0")] < 100 {
			t.Errorf("kind %d: the lives tell too little: %v", kind, met)
		}
	}
	if met["copies"] < 300 {
		t.Errorf("the lives tell too little: %v", met)
	}
}

// Ticks and stewards lead from any book with somewhere to go to one that is done, in any order of the stewards, and it stays so.
func TestTicksAndStewardsComeToDone(t *testing.T) {
	t.Parallel()
	r := rand.New(rand.NewSource(245))
	rounds := 0
	for range 80 {
		b := stewardsBook(r)
		for b.Now > 900000 || !slices.ContainsFunc(b.Berths, func(h impl.StewBerth) bool { return !h.Drain }) {
			b = stewardsBook(r)
		}
		for i := range b.Services {
			b.Services[i].Next = 100
		}
		order := r.Perm(6)
		doneAt := -1
		for round := range 300 {
			b = checkSeaCode(t, "a round", b, impl.StewEvent{Kind: impl.StewTick}, 0)
			for _, kind := range order {
				for _, a := range impl.StewAsk(kind+1, b) {
					next, code := impl.StewApply(b, a)
					if code != 0 || doneAt >= 0 {
						t.Fatalf("round %d, done since %d: %+v has code %d: %+v", round, doneAt, a, code, b)
					}
					b = next
				}
			}
			if done := impl.StewDone(b); done && doneAt < 0 {
				doneAt = round
			} else if !done && doneAt >= 0 {
				t.Fatalf("it was done in round %d, and is not in round %d: %+v", doneAt, round, b)
			}
			if doneAt >= 0 && round > doneAt+10 {
				break
			}
		}
		if doneAt < 0 {
			t.Fatalf("order %v: %v is left to do: %+v", order, impl.StewRank(b), b)
		}
		rounds += doneAt
	}
	if rounds < 200 {
		t.Errorf("the books tell too little: %d rounds", rounds)
	}
}

// What was done is not, when something happens to it that matters, and is again behind ticks and stewards.
func TestStewDoneUndone(t *testing.T) {
	for what, c := range map[string]struct {
		e    impl.StewEvent
		rank string
	}{
		"a tick":                     {impl.StewEvent{Kind: impl.StewTick}, "0 0 0 0 0 done"},
		"a copy fails":               {impl.StewEvent{Kind: impl.StewFails, Name: "api", Number: 3}, "0 0 0 0 1"},
		"a berth sinks":              {impl.StewEvent{Kind: impl.StewSink, Name: "c"}, "0 0 3 0 0"},
		"an empty berth sinks":       {impl.StewEvent{Kind: impl.StewSink, Name: "b"}, "0 0 0 0 0 done"},
		"a berth is raised":          {impl.StewEvent{Kind: impl.StewRaise, Name: "d"}, "0 0 0 0 0 done"},
		"a berth is to be drained":   {impl.StewEvent{Kind: impl.StewRaise, Name: "c", Flag: true}, "0 0 0 3 0"},
		"one is not any longer":      {impl.StewEvent{Kind: impl.StewRaise, Name: "b"}, "0 0 0 0 0 done"},
		"more load":                  {impl.StewEvent{Kind: impl.StewLoad, Name: "db", Number: 35}, "0 0 0 0 0"},
		"as much load":               {impl.StewEvent{Kind: impl.StewLoad, Name: "db", Number: 20}, "0 0 0 0 0 done"},
		"a new service":              {wishOf(impl.StewService{Name: "web", Image: 1, Want: 4, Over: 1}), "0 0 4 0 0"},
		"a new one, none wanted":     {wishOf(impl.StewService{Name: "web", Image: 1, Over: 1}), "0 0 0 0 0 done"},
		"another image":              {wishOf(impl.StewService{Name: "api", Image: 5, Want: 3, Over: 1}), "0 0 0 3 0"},
		"a service is gone":          {wishOf(impl.StewService{Name: "api", Gone: true, Image: 4, Want: 3, Over: 1}), "1 3 0 0 0"},
		"it is wished for as it was": {wishOf(doneBook().Services[0]), "0 0 0 0 0 done"},
	} {
		b := checkSeaCode(t, what, doneBook(), c.e, 0)
		checkRank(t, what, b, c.rank)
		for range 30 {
			b = checkSeaCode(t, what, b, impl.StewEvent{Kind: impl.StewTick}, 0)
			for kind := impl.StewCounter; kind <= impl.StewDrainer; kind++ {
				for _, a := range impl.StewAsk(kind, b) {
					b = checkCode(t, what, b, a, 0)
				}
			}
		}
		checkRank(t, what+", and some rounds", b, "0 0 0 0 0 done")
		if c.e.Kind == impl.StewTick && seaText(b) != seaText(doneBook()) {
			t.Errorf("%s: %q", what, seaText(b))
		}
	}
}

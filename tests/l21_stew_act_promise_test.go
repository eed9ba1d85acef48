package tests

import (
	"fmt"
	"math/rand"
	"slices"
	"testing"

	"loop.example/wharffleet/impl"
)

// checkPromise23OfActs: with code 0 a valid book is behind a valid one, with Now one more; with another code it is as it was, or nothing.
func checkPromise23OfActs(t *testing.T, b impl.StewBook, a impl.StewAct, next impl.StewBook, code int) {
	t.Helper()
	switch {
	case code == 0:
		if !impl.StewValid(b) || !impl.StewValid(next) || len(modelBookFaults(next)) > 0 || next.Now != b.Now+1 {
			t.Errorf("%+v is done, and leaves what is not valid, or not one more: %+v", a, next)
		}
	case code == 1:
		if impl.StewValid(b) || !sameBook(next, impl.StewBook{}) {
			t.Errorf("%+v leaves something: %+v", a, next)
		}
	case code < 0 || code > 7 || !impl.StewValid(b) || !sameBook(next, b):
		t.Errorf("%+v is not done (%d), and the book is not as it was: %+v", a, code, next)
	}
}

// checkPromise25: NO HARM. Chapter 21 has the Want that was for ends, also with Scale.
func checkPromise25(t *testing.T, b impl.StewBook, a impl.StewAct, next impl.StewBook, code int) {
	t.Helper()
	at := slices.IndexFunc(b.Services, func(s impl.StewService) bool { return s.Name == a.Service })
	if code != 0 || at < 0 || a.Drop {
		return
	}
	was, is := b.Services[at], next.Services[at]
	n := impl.StewCountOf(next, a.Service)
	if endedReady(b, a) && !was.Gone && n.Ready < was.Want-was.Down {
		t.Errorf("%+v leaves %+v of %+v", a, n, was)
	}
	if a.Create > 0 && n.Live > is.Want+is.Over {
		t.Errorf("%+v leaves %+v of %+v", a, n, is)
	}
}

// endedReady says whether an act ends a copy that is ready in the book.
func endedReady(b impl.StewBook, a impl.StewAct) bool {
	return slices.ContainsFunc(b.Copies, func(c impl.StewCopy) bool {
		return c.Service == a.Service && c.State == impl.StewReady && !c.Ending &&
			slices.ContainsFunc(a.Ends, func(e impl.StewEnd) bool { return e.Number == c.Number })
	})
}

// checkPromise26: LATE. What was seen in another Version is not done; what is done touches its service and those copies alone.
func checkPromise26(t *testing.T, b impl.StewBook, a impl.StewAct, next impl.StewBook, code int) {
	t.Helper()
	if code != 0 {
		return
	}
	if seenLate(b, a) {
		t.Errorf("%+v is late, and done: %+v", a, b)
	}
	services, copies := map[string]impl.StewService{}, map[string]impl.StewCopy{}
	for _, s := range next.Services {
		services[s.Name] = s
	}
	for _, c := range next.Copies {
		copies[modelCopyKey(c)] = c
	}
	for _, s := range b.Services {
		if s.Name != a.Service && services[s.Name] != s {
			t.Errorf("%+v touches %+v: %+v", a, s, services[s.Name])
		}
		if s.Name == a.Service && !a.Drop && services[s.Name].Version != next.Now {
			t.Errorf("%+v does not touch its service: %+v", a, services[s.Name])
		}
	}
	for _, c := range b.Copies {
		after := copies[modelCopyKey(c)]
		if c.Service == a.Service && slices.ContainsFunc(a.Ends, func(e impl.StewEnd) bool { return e.Number == c.Number }) {
			c.Ending, c.Version = true, next.Now
		}
		if after != c {
			t.Errorf("%+v makes %+v of what is to be %+v", a, after, c)
		}
	}
	if len(next.Copies) != len(b.Copies)+a.Create || !slices.Equal(next.Berths, b.Berths) {
		t.Errorf("%+v makes %+v of %+v", a, next, b)
	}
}

// seenLate says whether the service or a copy that is to end has another Version in the book, or is not there.
func seenLate(b impl.StewBook, a impl.StewAct) bool {
	sameService := slices.ContainsFunc(b.Services, func(s impl.StewService) bool { return s.Name == a.Service && s.Version == a.Seen })
	for _, e := range a.Ends {
		if !slices.ContainsFunc(b.Copies, func(c impl.StewCopy) bool {
			return c.Service == a.Service && c.Number == e.Number && c.Version == e.Seen
		}) {
			return true
		}
	}
	return !sameService
}

// happen is a change of a book that no steward asked for: a copy becomes something else, or is gone, or is said more of.
func happen(r *rand.Rand, b impl.StewBook) impl.StewBook {
	b = cloneBook(b)
	if b.Now == 1000000 || len(b.Copies) == 0 || len(b.Berths) == 0 {
		return b
	}
	b.Now++
	at := r.Intn(len(b.Copies))
	c := &b.Copies[at]
	if c.Ending && r.Intn(2) == 0 {
		b.Copies = slices.Delete(b.Copies, at, at+1)
		return b
	}
	if r.Intn(5) == 0 {
		s := &b.Services[slices.IndexFunc(b.Services, func(s impl.StewService) bool { return s.Name == c.Service })]
		s.Gone, s.Image, s.Want, s.Version = r.Intn(4) == 0, 1+r.Intn(4), r.Intn(5), b.Now
		return b
	}
	c.State, c.Version = pickOf(r, impl.StewReady, impl.StewReady, impl.StewReady, impl.StewFailed, impl.StewStarting), b.Now
	if c.Berth == "" {
		c.Berth = pickOf(r, b.Berths...).Name
	}
	return b
}

// Promises 23, 25 and 26 in lives of books: acts that are asked for by what was seen some changes ago, between changes that nobody asked for.
func TestPromises23And25And26InLives(t *testing.T) {
	t.Parallel()
	r := rand.New(rand.NewSource(212))
	met := map[string]int{}
	for range 400 {
		b := readyBook(r)
		for b.Now > 900000 || len(b.Berths) == 0 || len(b.Services) == 0 {
			b = readyBook(r)
		}
		past := []impl.StewBook{b}
		for range 60 {
			view := past[max(0, len(past)-1-pickOf(r, 0, 0, 0, 1, 2, 4))]
			a := randomAct(r, view)
			late := seenLate(b, a)
			next, code := checkApply(t, "an act of a view", b, a)
			if late && (code == 0 || code > 4) {
				t.Fatalf("%+v is late, and has code %d: %+v", a, code, b)
			}
			met[fmt.Sprint("late ", late, " ", code)]++
			met[fmt.Sprint("harm ", code == 0 && endedReady(b, a))]++
			b = next
			past = append(past, b)
			for range r.Intn(3) {
				b = happen(r, b)
				past = append(past, b)
			}
			if t.Failed() {
				return
			}
		}
	}
	for _, what := range []string{"late true 3", "late true 4", "late false 0", "late false 5", "late false 6", "harm true"} {
		if met[what] < 300 {
			t.Errorf("the lives tell too little: %q: %v", what, met)
		}
	}
}

// Promise 26, ahead of and behind a change of each thing that an act was asked for by, and of each other thing.
func TestPromise26OfEachChange(t *testing.T) {
	seen := actBook()
	for what, c := range map[string]struct {
		code   int
		change func(b *impl.StewBook)
	}{
		"nothing":            {0, func(b *impl.StewBook) {}},
		"the service":        {4, func(b *impl.StewBook) { b.Services[1].Version = 51 }},
		"the service's load": {4, func(b *impl.StewBook) { b.Services[1].Load, b.Services[1].Version = 12, 51 }},
		"the first of Ends":  {4, func(b *impl.StewBook) { b.Copies[4].Version = 51 }},
		"the last of Ends":   {4, func(b *impl.StewBook) { b.Copies[7].State, b.Copies[7].Version = impl.StewReady, 51 }},
		"the service is gone": {3, func(b *impl.StewBook) {
			b.Services, b.Copies = slices.Delete(b.Services, 1, 2), slices.Delete(b.Copies, 2, 9)
		}},
		"an end is gone":      {3, func(b *impl.StewBook) { b.Copies = slices.Delete(b.Copies, 4, 5) }},
		"all copies are gone": {3, func(b *impl.StewBook) { b.Copies = nil }},
		"the service, and a copy gone": {3, func(b *impl.StewBook) {
			b.Services[1].Version, b.Copies = 51, slices.Delete(b.Copies, 7, 8)
		}},
		"another copy":           {0, func(b *impl.StewBook) { b.Copies[2].Version = 51 }},
		"another service":        {0, func(b *impl.StewBook) { b.Services[0].Version, b.Services[4].Version = 51, 51 }},
		"a copy of another one":  {0, func(b *impl.StewBook) { b.Copies[0].Version = 51 }},
		"a copy of its own name": {0, func(b *impl.StewBook) { b.Copies[9].Version = 51 }},
		"a berth":                {0, func(b *impl.StewBook) { b.Berths[0].Drain = true }},
	} {
		b := cloneBook(seen)
		b.Now = 51
		c.change(&b)
		checkValidBook(t, what, b, "")
		if _, code := checkApply(t, what, b, wholeAct()); code != c.code {
			t.Errorf("%s: code %d", what, code)
		}
	}
	// One who saw what comes only later is late, too.
	for _, ahead := range []int{-1, 1, 1000} {
		a := wholeAct()
		a.Seen += ahead
		if _, code := checkApply(t, "ahead", seen, a); code != 4 {
			t.Errorf("%d ahead: code %d", ahead, code)
		}
		for i := range a.Ends {
			a := wholeAct()
			a.Ends[i].Seen += ahead
			if _, code := checkApply(t, "ahead", seen, a); code != 4 {
				t.Errorf("end %d, %d ahead: code %d", i, ahead, code)
			}
		}
	}
}

// An act that is done is late when it is asked for once more.
func TestPromise26Twice(t *testing.T) {
	acts := map[string]impl.StewAct{
		"whole":  wholeAct(),
		"none":   {Service: "api", Seen: 10},
		"create": {Service: "api", Seen: 10, Create: 1},
		"ends":   {Service: "gone", Seen: 30, Ends: []impl.StewEnd{{Number: 1, Seen: 31}}},
		"scale":  {Service: "db", Seen: 20, Scale: true, Want: 3, Cool: 2},
	}
	for what, a := range acts {
		once, code := checkApply(t, what, actBook(), a)
		if code != 0 {
			t.Fatalf("%s: code %d", what, code)
		}
		if _, code := checkApply(t, what+" again", once, a); code != 4 {
			t.Errorf("%s again: code %d", what, code)
		}
	}
	once, _ := impl.StewApply(actBook(), impl.StewAct{Service: "left", Seen: 40, Drop: true})
	if _, code := checkApply(t, "dropped again", once, impl.StewAct{Service: "left", Seen: 40, Drop: true}); code != 3 {
		t.Errorf("dropped again: code %d", code)
	}
}

// Two stewards who saw the same book: what the first has done makes the second one late, so that together they do no harm.
func TestPromise25OfTwoStewards(t *testing.T) {
	b := actBook()
	first := impl.StewAct{Service: "db", Seen: 20, Ends: []impl.StewEnd{{Number: 1, Seen: 21}}}
	second := impl.StewAct{Service: "db", Seen: 20, Ends: []impl.StewEnd{{Number: 2, Seen: 22}}}
	for _, acts := range [][]impl.StewAct{{first, second}, {second, first}} {
		next, code := checkApply(t, "the first", b, acts[0])
		if code != 0 {
			t.Fatalf("code %d", code)
		}
		if _, code = checkApply(t, "the second", next, acts[1]); code != 4 {
			t.Errorf("code %d", code)
		}
		acts[1].Seen = next.Now
		if _, code = checkApply(t, "the second, who looks anew", next, acts[1]); code != 5 {
			t.Errorf("code %d", code)
		}
	}
}

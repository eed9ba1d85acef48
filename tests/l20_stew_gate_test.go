package tests

import (
	"fmt"
	"math"
	"math/rand"
	"slices"
	"testing"

	"loop.example/wharffleet/impl"
)

// modelMayEnd is a second reading of chapter 20: by walks over all copies, with nothing found ahead of them.
func modelMayEnd(b impl.StewBook, service string, number int) bool {
	if len(modelBookFaults(b)) > 0 {
		return false
	}
	var own *impl.StewCopy
	others := 0
	for i, c := range b.Copies {
		switch {
		case c.Service != service:
		case c.Number == number:
			own = &b.Copies[i]
		case c.State == 3 && !c.Ending:
			others++
		}
	}
	if own == nil || own.Ending {
		return false
	}
	for _, s := range b.Services {
		if s.Name == service {
			return own.State != 3 || s.Gone || others+s.Down >= s.Want
		}
	}
	return false
}

// checkMayEnd holds StewMayEnd against the second reading.
func checkMayEnd(t *testing.T, what string, b impl.StewBook, service string, number int) bool {
	t.Helper()
	got, want := impl.StewMayEnd(b, service, number), modelMayEnd(b, service, number)
	if got != want {
		t.Errorf("%s: %q %d may end: %v, not %v: %+v", what, service, number, got, want, b)
	}
	return got
}

// checkMayEndAll asks for each copy of a book, for some that it has not, and for names of other things.
func checkMayEndAll(t *testing.T, what string, b impl.StewBook) {
	t.Helper()
	names := []string{"", "a", "none"}
	numbers := map[int]bool{math.MinInt: true, -1: true, 0: true, 1: true, math.MaxInt: true}
	for _, s := range b.Services {
		names = append(names, s.Name)
		numbers[s.Next] = true
	}
	for _, c := range b.Copies {
		names = append(names, c.Service, c.Berth)
		numbers[c.Number] = true
	}
	for _, name := range modelSet(names) {
		for number := range numbers {
			checkMayEnd(t, what, b, name, number)
		}
	}
}

// gateBook has one service whose copy 1 is asked for, and so many others that are Live and ready; beside them such as do not count.
func gateBook(ready int) impl.StewBook {
	b := impl.StewBook{
		Now:      30,
		Services: []impl.StewService{{Name: "db", Version: 3, Image: 1, Want: 3, Down: 1, Next: 100}, {Name: "web", Version: 4, Image: 1, Want: 2, Over: 1, Next: 100}},
		Berths:   []impl.StewBerth{{Name: "a"}, {Name: "b", Drain: true}},
	}
	add := func(service string, number, state int, ending bool) {
		c := impl.StewCopy{Service: service, Number: number, Version: 5, Image: 1 + number%2, State: state, Ending: ending, Berth: "a"}
		if state == impl.StewWaiting {
			c.Berth = ""
		}
		b.Copies = append(b.Copies, c)
	}
	add("db", 1, impl.StewReady, false)
	for i := range ready {
		add("db", 10+i, impl.StewReady, false)
	}
	add("db", 90, impl.StewReady, true)
	add("db", 91, impl.StewReady, true)
	add("db", 92, impl.StewStarting, false)
	add("db", 93, impl.StewWaiting, false)
	add("db", 94, impl.StewFailed, false)
	for i := range 5 {
		add("web", 1+i, impl.StewReady, false)
	}
	return b
}

func TestStewMayEndByHand(t *testing.T) {
	b := fullBook()
	for _, c := range []struct {
		service string
		number  int
		want    bool
	}{
		{"db", 1, false}, // no other one is ready, and two are to be
		{"db", 2, true}, {"db", 5, true}, {"db", 7, true},
		{"db", 3, false},                     // it is Ending
		{"old", 2, false}, {"old", 3, false}, // so are these
		{"web", 1, true}, {"web", 999999, true}, // all may be down
		{"db", 4, false}, {"db", 6, false}, {"db", 8, false}, {"db", 0, false}, {"db", -1, false}, {"db", 999999, false},
		{"old", 1, false}, {"cache", 1, false}, {"web", 2, false}, {"web", 1000000, false},
		{"", 1, false}, {"d", 2, false}, {"db-", 2, false}, {"DB", 2, false}, {"a", 1, false}, {"none", 2, false}, {"b", 7, false},
	} {
		if got := checkMayEnd(t, "by hand", b, c.service, c.number); got != c.want {
			t.Errorf("%q %d: %v", c.service, c.number, got)
		}
	}
	if impl.StewMayEnd(impl.StewBook{}, "", 0) {
		t.Error("nothing may end")
	}
}

// A copy in each State, Ending and not, of a service that is Gone and not, with as many others ready as there must be, one less and one more.
func TestStewMayEndOfEachCopy(t *testing.T) {
	for state := impl.StewWaiting; state <= impl.StewFailed; state++ {
		for _, ending := range []bool{false, true} {
			for _, gone := range []bool{false, true} {
				for others := range 5 {
					b := gateBook(others)
					b.Services[0].Gone = gone
					b.Copies[0].State, b.Copies[0].Ending = state, ending
					if state == impl.StewWaiting {
						b.Copies[0].Berth = ""
					}
					want := !ending && (gone || state != impl.StewReady || others >= 2)
					what := fmt.Sprintf("state %d, ending %v, gone %v, %d others", state, ending, gone, others)
					if got := checkMayEnd(t, what, b, "db", 1); got != want {
						t.Errorf("%s: %v", what, got)
					}
				}
			}
		}
	}
}

// At least Want less Down of the others, of each Want and Down; with a Down above Want none need be there.
func TestStewMayEndWantLessDown(t *testing.T) {
	for others := range 12 {
		b := gateBook(others)
		checkValidBook(t, "at the gate", b, "")
		for want := range 11 {
			for down := range 11 {
				b.Services[0].Want, b.Services[0].Down, b.Services[0].Over = want, down, 1
				what := fmt.Sprintf("want %d, down %d, %d others", want, down, others)
				if got := checkMayEnd(t, what, b, "db", 1); got != (others >= want-down) {
					t.Errorf("%s: %v", what, got)
				}
			}
		}
	}
}

// The others are those of the copy's own service that are Live and ready: each that is not so is missed.
func TestStewMayEndByOthers(t *testing.T) {
	for what, c := range map[string]struct {
		want   bool
		change func(b *impl.StewBook)
	}{
		"two others":                         {true, func(b *impl.StewBook) {}},
		"one is Ending":                      {false, func(b *impl.StewBook) { b.Copies[1].Ending = true }},
		"the last is Ending":                 {false, func(b *impl.StewBook) { b.Copies[2].Ending = true }},
		"one starts":                         {false, func(b *impl.StewBook) { b.Copies[1].State = impl.StewStarting }},
		"one waits":                          {false, func(b *impl.StewBook) { b.Copies[1].State, b.Copies[1].Berth = impl.StewWaiting, "" }},
		"one has failed":                     {false, func(b *impl.StewBook) { b.Copies[2].State = impl.StewFailed }},
		"one is not there":                   {false, func(b *impl.StewBook) { b.Copies = slices.Delete(b.Copies, 1, 2) }},
		"one is of an old image":             {true, func(b *impl.StewBook) { b.Copies[1].Image = 9 }},
		"one is on a berth to be drained":    {true, func(b *impl.StewBook) { b.Copies[1].Berth = "b" }},
		"it itself is of an old image":       {true, func(b *impl.StewBook) { b.Copies[0].Image = 9 }},
		"one that is Ending is so no longer": {true, func(b *impl.StewBook) { b.Copies[1].Ending, b.Copies[3].Ending = true, false }},
		"one that started is ready":          {true, func(b *impl.StewBook) { b.Copies[1].State, b.Copies[5].State = impl.StewStarting, impl.StewReady }},
		"another service has none ready": {true, func(b *impl.StewBook) {
			for i := range b.Copies {
				if b.Copies[i].Service == "web" {
					b.Copies[i].State = impl.StewFailed
				}
			}
		}},
		"another service is Gone":    {false, func(b *impl.StewBook) { b.Services[1].Gone, b.Copies[1].Ending = true, true }},
		"another service wants less": {false, func(b *impl.StewBook) { b.Services[1].Want, b.Copies[1].Ending = 0, true }},
		"one more is wanted":         {false, func(b *impl.StewBook) { b.Services[0].Want++ }},
		"one less is wanted":         {true, func(b *impl.StewBook) { b.Services[0].Want--; b.Copies[1].Ending = true }},
		"one more may be down":       {true, func(b *impl.StewBook) { b.Services[0].Down++; b.Copies[1].Ending = true }},
		"one less may be down":       {false, func(b *impl.StewBook) { b.Services[0].Down--; b.Services[0].Over = 1 }},
		"more may be over":           {false, func(b *impl.StewBook) { b.Services[0].Over = 10; b.Copies[1].Ending = true }},
		"it has a load":              {false, func(b *impl.StewBook) { b.Services[0].Per, b.Copies[1].Ending = 5, true }},
	} {
		b := gateBook(2)
		c.change(&b)
		checkValidBook(t, what, b, "")
		if got := checkMayEnd(t, what, b, "db", 1); got != c.want {
			t.Errorf("%s: %v", what, got)
		}
		checkMayEndAll(t, what, b)
	}
}

func TestStewMayEndNotValid(t *testing.T) {
	for _, c := range bookNumbers() {
		for _, n := range []int{math.MinInt, c.least - 1, c.most + 1, math.MaxInt} {
			b := fullBook()
			*c.of(&b) = n
			checkNoEnd(t, fmt.Sprint(c.what, " ", n), b)
		}
	}
	for what, b := range brokenBooks() {
		checkNoEnd(t, what, b)
	}
	inGoodTime(t, "lists that are far too long", func() {
		b := fullBook()
		b.Copies = slices.Repeat(b.Copies, 20000)
		for range 100 {
			if impl.StewMayEnd(b, "db", 2) {
				t.Fatal("it may end")
			}
		}
	})
}

// checkNoEnd asks for all of a book that is not valid.
func checkNoEnd(t *testing.T, what string, b impl.StewBook) {
	t.Helper()
	for _, c := range b.Copies {
		if impl.StewMayEnd(b, c.Service, c.Number) {
			t.Errorf("%s: %q %d may end: %+v", what, c.Service, c.Number, b)
		}
	}
}

func TestStewMayEndGreat(t *testing.T) {
	b := greatBook(8, 200, 6)
	for i := range b.Services {
		b.Services[i].Down = 0
	}
	for i := range b.Copies {
		b.Copies[i].State, b.Copies[i].Ending = impl.StewReady, i%25 >= 11
	}
	for _, c := range b.Copies { // eleven are Live, of which one may end
		if got := checkMayEnd(t, "a great book", b, c.Service, c.Number); got != !c.Ending {
			t.Fatalf("%+v: %v", c, got)
		}
	}
	for i := range b.Copies {
		b.Copies[i].Ending = i%25 >= 10
	}
	for _, c := range b.Copies {
		if checkMayEnd(t, "a great book", b, c.Service, c.Number) {
			t.Fatalf("%+v may end", c)
		}
	}
	for _, n := range []int{math.MinInt, math.MinInt + 1, -1000000, 1000000, 1000001, math.MaxInt - 1, math.MaxInt} {
		for _, s := range b.Services {
			checkMayEnd(t, "any number", b, s.Name, n)
		}
	}
}

func TestStewMayEndAsRead(t *testing.T) {
	t.Parallel()
	r := rand.New(rand.NewSource(201))
	for range 2500 {
		b := randomBook(r)
		checkMayEndAll(t, "a drawn book", b)
		breakBook(r, &b)
		checkMayEndAll(t, "a changed book", b)
		if t.Failed() {
			return
		}
	}
}

// readyBook is a drawn one in which more is ready than else, and fewer are wanted, so that the gate is open for some and shut for others.
func readyBook(r *rand.Rand) impl.StewBook {
	b := randomBook(r)
	for i := range b.Services {
		s := &b.Services[i]
		s.Want = r.Intn(5)
		if r.Intn(3) > 0 {
			s.Down = r.Intn(2)
			s.Over = 1 + r.Intn(3)
		}
	}
	for i := range b.Copies {
		if c := &b.Copies[i]; c.Berth != "" && r.Intn(2) == 0 {
			c.State = impl.StewReady
		}
	}
	return b
}

// Promise 32: what is not ready, or of a service that is Gone, may end as long as it is Live; and what may end may do so also if another copy of the service becomes ready.
func TestPromise32(t *testing.T) {
	t.Parallel()
	r := rand.New(rand.NewSource(202))
	met := map[string]int{}
	for range 4000 {
		b := readyBook(r)
		gone := map[string]bool{}
		for _, s := range b.Services {
			gone[s.Name] = s.Gone
		}
		for i, c := range b.Copies {
			may := impl.StewMayEnd(b, c.Service, c.Number)
			switch {
			case c.Ending:
				met["ending"]++
				if may {
					t.Fatalf("%+v is Ending, and may end: %+v", c, b)
				}
			case c.State != impl.StewReady || gone[c.Service]:
				met["free"]++
				if !may {
					t.Fatalf("%+v may not end: %+v", c, b)
				}
			default:
				met[fmt.Sprint("ready ", may)]++
			}
			if !may {
				continue
			}
			for j, other := range b.Copies {
				if i == j || other.Service != c.Service || other.State == impl.StewReady || len(b.Berths) == 0 {
					continue
				}
				next := cloneBook(b)
				next.Copies[j].State, next.Copies[j].Berth = impl.StewReady, pickOf(r, b.Berths...).Name
				met["another becomes ready"]++
				if !impl.StewMayEnd(next, c.Service, c.Number) {
					t.Fatalf("%+v may end no longer when %+v is ready: %+v", c, other, b)
				}
			}
		}
	}
	for _, what := range []string{"ending", "free", "ready true", "ready false", "another becomes ready"} {
		if met[what] < 500 {
			t.Errorf("the books tell too little: %v", met)
		}
	}
}

// The same, with each other copy in each State, one after the other, until all are ready.
func TestPromise32OneAfterTheOther(t *testing.T) {
	for want := range 8 {
		for down := range 4 {
			b := gateBook(1)
			b.Services[0].Want, b.Services[0].Down, b.Services[0].Over = want, down, 1
			may := impl.StewMayEnd(b, "db", 1)
			for i := range b.Copies[1:] {
				c := &b.Copies[1+i]
				c.State, c.Berth = impl.StewReady, "a"
				now := checkMayEnd(t, "one more is ready", b, "db", 1)
				if may && !now {
					t.Errorf("want %d, down %d: it may end no longer: %+v", want, down, b)
				}
				may = now
			}
		}
	}
}

// The gate hangs on State, Ending and what is wanted alone.
func TestStewMayEndHangsOnNothingElse(t *testing.T) {
	r := rand.New(rand.NewSource(203))
	for range 2000 {
		b := readyBook(r)
		other := cloneBook(b)
		other.Now = 1000000
		for i, s := range other.Services {
			next := randomService(r, s.Name, other.Now)
			next.Gone, next.Want, next.Down, next.Over, next.Next = s.Gone, s.Want, s.Down, max(1, next.Over), 1000000
			other.Services[i] = next
		}
		for i := range other.Copies {
			c := &other.Copies[i]
			c.Version, c.Image = 1+r.Intn(other.Now), 1+r.Intn(9)
			if c.Berth != "" {
				c.Berth = pickOf(r, other.Berths...).Name
			}
		}
		for i := range other.Berths {
			other.Berths[i].Drain = !other.Berths[i].Drain
		}
		checkValidBook(t, "another book", other, "")
		for _, c := range b.Copies {
			if impl.StewMayEnd(b, c.Service, c.Number) != impl.StewMayEnd(other, c.Service, c.Number) {
				t.Fatalf("%+v may end in one book alone:\n%+v\n%+v", c, b, other)
			}
		}
	}
}

func TestStewMayEndChangesNothing(t *testing.T) {
	r := rand.New(rand.NewSource(204))
	ask := func(b impl.StewBook) {
		for _, c := range append(slices.Clone(b.Copies), impl.StewCopy{Service: "behind", Number: 8}) {
			if impl.StewMayEnd(b, c.Service, c.Number) != impl.StewMayEnd(cloneBook(b), c.Service, c.Number) {
				t.Errorf("what stands behind is asked: %+v", b)
			}
		}
	}
	for _, b := range []impl.StewBook{{}, fullBook(), gateBook(2), greatBook(8, 200, 6)} {
		checkBookUnchanged(t, b, ask)
	}
	for i := range 300 {
		b := readyBook(r)
		if i%2 == 0 {
			breakBook(r, &b)
		}
		checkBookUnchanged(t, b, ask)
	}
}

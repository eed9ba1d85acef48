package tests

import (
	"fmt"
	"math/rand"
	"slices"
	"testing"

	"loop.example/wharffleet/impl"
)

// modelCountOf is a second reading of chapter 19: each number by a walk of its own over all copies.
func modelCountOf(b impl.StewBook, service string) impl.StewCount {
	at := slices.IndexFunc(b.Services, func(s impl.StewService) bool { return s.Name == service })
	if at < 0 || len(modelBookFaults(b)) > 0 {
		return impl.StewCount{}
	}
	count := func(is func(c impl.StewCopy) bool) int {
		return len(slices.DeleteFunc(slices.Clone(b.Copies), func(c impl.StewCopy) bool { return c.Service != service || !is(c) }))
	}
	return impl.StewCount{
		Live:   count(func(c impl.StewCopy) bool { return !c.Ending }),
		Ready:  count(func(c impl.StewCopy) bool { return !c.Ending && c.State == 3 }),
		Old:    count(func(c impl.StewCopy) bool { return !c.Ending && c.Image != b.Services[at].Image }),
		Failed: count(func(c impl.StewCopy) bool { return !c.Ending && c.State == 4 }),
		Ending: count(func(c impl.StewCopy) bool { return c.Ending }),
	}
}

// checkCounts holds StewCountOf of all that a book names, and of some that it need not, against the second reading.
func checkCounts(t *testing.T, what string, b impl.StewBook) {
	t.Helper()
	names := []string{"", "none", "a", "web"}
	for _, s := range b.Services {
		names = append(names, s.Name)
	}
	for _, c := range b.Copies {
		names = append(names, c.Service, c.Berth)
	}
	for _, name := range modelSet(names) {
		if got, want := impl.StewCountOf(b, name), modelCountOf(b, name); got != want {
			t.Errorf("%s: StewCountOf %q is %+v, not %+v: %+v", what, name, got, want, b)
		}
	}
}

func TestStewCountOf(t *testing.T) {
	b := fullBook()
	for service, want := range map[string]impl.StewCount{
		"cache": {},
		"db":    {Live: 4, Ready: 1, Old: 2, Failed: 1, Ending: 1},
		"old":   {Ending: 2},
		"web":   {Live: 2, Ready: 2, Old: 1},
		"":      {}, "d": {}, "db-": {}, "dc": {}, "DB": {}, "a": {}, "zzz": {}, "-": {}, "db ": {}, "\x00": {},
	} {
		if got := impl.StewCountOf(b, service); got != want {
			t.Errorf("%q: %+v, not %+v", service, got, want)
		}
	}
	if got := impl.StewCountOf(impl.StewBook{}, ""); got != (impl.StewCount{}) {
		t.Errorf("of nothing: %+v", got)
	}
}

// Each copy counts as what it is: what is Ending is that alone, whatever its State and Image are.
func TestStewCountOfEachCopy(t *testing.T) {
	for _, c := range []struct {
		state  int
		ending bool
		image  int
		want   impl.StewCount
	}{
		{impl.StewWaiting, false, 7, impl.StewCount{Live: 1}},
		{impl.StewStarting, false, 7, impl.StewCount{Live: 1}},
		{impl.StewReady, false, 7, impl.StewCount{Live: 1, Ready: 1}},
		{impl.StewFailed, false, 7, impl.StewCount{Live: 1, Failed: 1}},
		{impl.StewWaiting, false, 6, impl.StewCount{Live: 1, Old: 1}},
		{impl.StewStarting, false, 8, impl.StewCount{Live: 1, Old: 1}},
		{impl.StewReady, false, 1, impl.StewCount{Live: 1, Ready: 1, Old: 1}},
		{impl.StewFailed, false, 1000000, impl.StewCount{Live: 1, Old: 1, Failed: 1}},
		{impl.StewWaiting, true, 7, impl.StewCount{Ending: 1}},
		{impl.StewStarting, true, 7, impl.StewCount{Ending: 1}},
		{impl.StewReady, true, 7, impl.StewCount{Ending: 1}},
		{impl.StewFailed, true, 7, impl.StewCount{Ending: 1}},
		{impl.StewWaiting, true, 6, impl.StewCount{Ending: 1}},
		{impl.StewReady, true, 8, impl.StewCount{Ending: 1}},
		{impl.StewFailed, true, 6, impl.StewCount{Ending: 1}},
	} {
		for _, berth := range []string{"a", "b"} { // to be drained and not
			for _, gone := range []bool{false, true} {
				if c.state == impl.StewWaiting {
					berth = ""
				}
				b := fullBook()
				b.Services[1].Gone = gone
				b.Copies[0] = impl.StewCopy{Service: "db", Number: 1, Version: 2, Image: c.image, State: c.state, Ending: c.ending, Berth: berth}
				b.Copies = slices.Delete(b.Copies, 1, 5)
				if got := impl.StewCountOf(b, "db"); got != c.want {
					t.Errorf("%+v: %+v, not %+v", b.Copies[0], got, c.want)
				}
				checkValidBook(t, "a copy", b, "")
			}
		}
	}
}

// Copies count for their own service alone, also where its name is the beginning of another one, and Old is asked by its own Image.
func TestStewCountOfEachService(t *testing.T) {
	names := []string{"a", "a-", "a-1", "a0", "aa", "b", "web", "web-2"}
	b := impl.StewBook{Now: 9, Services: servicesCalled(names...), Berths: []impl.StewBerth{{Name: "a"}, {Name: "x"}}}
	for i, name := range names {
		b.Services[i].Image = i + 1
		for number := 1; number <= i; number++ { // so many of them, the last of which alone is not old
			b.Copies = append(b.Copies, impl.StewCopy{Service: name, Number: number, Version: 1, Image: number + 1, State: impl.StewReady, Berth: "a"})
		}
	}
	checkValidBook(t, "names that begin one another", b, "")
	for i, name := range names {
		want := impl.StewCount{Live: i, Ready: i, Old: max(0, i-1)}
		if got := impl.StewCountOf(b, name); got != want {
			t.Errorf("%q: %+v, not %+v", name, got, want)
		}
	}
	for i := range b.Services { // each service but this one without copies
		only := cloneBook(b)
		only.Copies = slices.DeleteFunc(only.Copies, func(c impl.StewCopy) bool { return c.Service != names[i] })
		for j, name := range names {
			want := impl.StewCount{}
			if i == j {
				want = impl.StewCountOf(b, name)
			}
			if got := impl.StewCountOf(only, name); got != want {
				t.Errorf("%q with copies of %q alone: %+v, not %+v", name, names[i], got, want)
			}
		}
	}
}

func TestStewCountOfNotValid(t *testing.T) {
	for _, c := range bookNumbers() {
		for _, n := range []int{c.least - 1, c.most + 1} {
			b := fullBook()
			*c.of(&b) = n
			checkNoBook(t, fmt.Sprint(c.what, " ", n), b)
		}
	}
	for what, b := range brokenBooks() {
		checkNoBook(t, what, b)
	}
}

// brokenBooks are not valid, each for one reason that may be far from what is asked for.
func brokenBooks() map[string]impl.StewBook {
	books := map[string]impl.StewBook{}
	for what, change := range map[string]func(b *impl.StewBook){
		"the berths' order":    func(b *impl.StewBook) { slices.Reverse(b.Berths) },
		"the services' order":  func(b *impl.StewBook) { slices.Reverse(b.Services) },
		"the copies' order":    func(b *impl.StewBook) { b.Copies[7], b.Copies[8] = b.Copies[8], b.Copies[7] },
		"a copy twice":         func(b *impl.StewBook) { b.Copies = slices.Insert(b.Copies, 1, b.Copies[1]) },
		"a berth's name":       func(b *impl.StewBook) { b.Berths = append(b.Berths, impl.StewBerth{Name: "d_"}) },
		"a copy of no service": func(b *impl.StewBook) { b.Services = b.Services[:3] },
		"a copy on no berth":   func(b *impl.StewBook) { b.Copies[8].Berth = "d" },
		"a service's name":     func(b *impl.StewBook) { b.Services[0].Name = "" },
		"too many services": func(b *impl.StewBook) {
			b.Services = append(b.Services, servicesCalled("x1", "x2", "x3", "x4", "x5")...)
		},
	} {
		b := fullBook()
		change(&b)
		books[what] = b
	}
	return books
}

func TestStewCountOfGreat(t *testing.T) {
	b := greatBook(8, 200, 6)
	for _, s := range b.Services {
		if got, want := impl.StewCountOf(b, s.Name), (impl.StewCount{Live: 25, Failed: 25}); got != want {
			t.Errorf("%+v, not %+v", got, want)
		}
	}
	for i := range b.Copies {
		b.Copies[i].Ending = i%2 == 0
		b.Copies[i].Image = 1 + i%5
	}
	checkCounts(t, "a great one", b)
	one := greatBook(1, 200, 6)
	if got, want := impl.StewCountOf(one, one.Services[0].Name), (impl.StewCount{Live: 200, Failed: 200}); got != want {
		t.Errorf("%+v, not %+v", got, want)
	}
}

// Promise 27 stands on this: by the counts of a valid book it can be told whether each service has just Want copies that are Live, all ready and of its Image, and none that is Ending; nothing is counted twice, and nothing is left out.
func TestPromise27StandsOnCounts(t *testing.T) {
	t.Parallel()
	r := rand.New(rand.NewSource(191))
	met := map[bool]int{}
	for range 20000 {
		b := randomBook(r)
		all := 0
		for i, s := range b.Services {
			if r.Intn(2) == 0 { // as nearly done as a service can be
				for j := range b.Copies {
					if c := &b.Copies[j]; c.Service == s.Name && c.Berth != "" {
						c.State, c.Ending, c.Image = impl.StewReady, r.Intn(20) == 0, s.Image
					}
				}
				b.Services[i].Want = impl.StewCountOf(b, s.Name).Live
			}
			got := impl.StewCountOf(b, s.Name)
			all += got.Live + got.Ending
			byCounts := got.Live == b.Services[i].Want && got.Ready == got.Live && got.Old == 0 && got.Failed == 0 && got.Ending == 0
			byCopies, live := true, 0
			for _, c := range b.Copies {
				if c.Service == s.Name {
					byCopies = byCopies && !c.Ending && c.State == impl.StewReady && c.Image == s.Image
					live++
				}
			}
			if byCopies = byCopies && live == b.Services[i].Want; byCopies != byCounts {
				t.Fatalf("%q: %+v is not what the copies tell: %+v", s.Name, got, b)
			}
			met[byCounts]++
		}
		if all != len(b.Copies) {
			t.Fatalf("%d are counted: %+v", all, b)
		}
		checkCounts(t, "a drawn book", b)
	}
	if met[true] < 5000 || met[false] < 5000 {
		t.Errorf("the books tell too little: %v", met)
	}
}

// A count is of State, Ending and Image alone: it is the same wherever copies stand, in whatever Version, and under whatever Numbers, and whatever else is said of their service.
func TestStewCountOfHangsOnNothingElse(t *testing.T) {
	r := rand.New(rand.NewSource(192))
	for range 3000 {
		b := randomBook(r)
		other := cloneBook(b)
		other.Now = 1000000
		for i, s := range other.Services {
			next := randomService(r, s.Name, other.Now)
			next.Image, next.Next = s.Image, 1000000
			other.Services[i] = next
		}
		for i := range other.Copies {
			c := &other.Copies[i]
			c.Version, c.Number = 1+r.Intn(other.Now), c.Number*7
			if c.Berth != "" {
				c.Berth = pickOf(r, other.Berths...).Name
			}
		}
		for i := range other.Berths {
			other.Berths[i].Drain = !other.Berths[i].Drain
		}
		checkValidBook(t, "another book", other, "")
		for _, s := range b.Services {
			if got, want := impl.StewCountOf(other, s.Name), impl.StewCountOf(b, s.Name); got != want {
				t.Fatalf("%q: %+v, not %+v\n%+v\n%+v", s.Name, got, want, b, other)
			}
		}
	}
}

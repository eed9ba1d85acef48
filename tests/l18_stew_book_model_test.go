package tests

import (
	"fmt"
	"math"
	"math/rand"
	"regexp"
	"slices"
	"strings"
	"testing"

	"loop.example/wharffleet/impl"
)

// A second reading of chapter 18, made another way than the program: names by a pattern, orders by sorted texts, things by walks from end to end.

var modelStewName = regexp.MustCompile(`\A[-0-9a-z]{1,20}\z`)

// modelBookFaults are the conditions of a valid book that one does not meet, each once and in order.
func modelBookFaults(b impl.StewBook) []string {
	var faults []string
	fault := func(name string, is bool) {
		if is {
			faults = append(faults, name)
		}
	}
	within := func(name string, n, least, most int) { fault(name, n < least || n > most) }
	within("now", b.Now, 0, 1000000)
	next := map[string]int{}
	var services, berths, copies []string
	for _, s := range b.Services {
		services = append(services, s.Name)
		next[s.Name] = s.Next
		within("service's version", s.Version, 1, b.Now)
		modelServiceFaults(s, fault, within)
	}
	for _, h := range b.Berths {
		berths = append(berths, h.Name)
		fault("berth's name", !modelStewName.MatchString(h.Name))
	}
	for _, c := range b.Copies {
		copies = append(copies, modelCopyKey(c))
		fault("copy's service", !slices.Contains(services, c.Service))
		fault("copy's number", c.Number < 1 || slices.Contains(services, c.Service) && c.Number >= next[c.Service])
		within("copy's version", c.Version, 1, b.Now)
		within("copy's image", c.Image, 1, 1000000)
		within("copy's state", c.State, 1, 4)
		fault("a berth while it waits", c.State == 1 && len(c.Berth) > 0)
		fault("no berth", c.State != 1 && len(c.Berth) == 0)
		fault("copy's berth", c.State != 1 && len(c.Berth) > 0 && !slices.Contains(berths, c.Berth))
	}
	within("services", len(services), 0, 8)
	within("berths", len(berths), 0, 6)
	within("copies", len(copies), 0, 200)
	fault("services' order", !slices.Equal(services, modelSet(services)))
	fault("berths' order", !slices.Equal(berths, modelSet(berths)))
	fault("copies' order", !slices.Equal(copies, modelSet(copies)))
	return modelSet(faults)
}

func modelServiceFaults(s impl.StewService, fault func(string, bool), within func(string, int, int, int)) {
	fault("service's name", !modelStewName.MatchString(s.Name))
	within("service's image", s.Image, 1, 1000000)
	within("service's next", s.Next, 1, 1000000)
	within("service's want", s.Want, 0, 10)
	within("service's down", s.Down, 0, 10)
	within("service's over", s.Over, 0, 10)
	fault("down and over", s.Down == 0 && s.Over == 0)
	within("service's per", s.Per, 0, 1000000)
	within("service's load", s.Load, 0, 1000000)
	within("service's least", s.Least, 0, 10)
	within("service's most", s.Most, 0, 10)
	fault("least above most", s.Least > s.Most)
	within("service's cool", s.Cool, 0, 3)
	for _, n := range []int{s.Least, s.Most, s.Load, s.Cool} {
		fault("without per", s.Per == 0 && n != 0)
	}
}

// modelCopyKey are texts that are in the order of copies: a blank is ahead of all that is in names, and numbers have one size.
func modelCopyKey(c impl.StewCopy) string {
	return fmt.Sprintf("%s %020d", c.Service, uint64(c.Number)^1<<63)
}

// allBookFaults are all the conditions of which the second reading knows.
func allBookFaults() []string {
	return modelSet([]string{
		"now", "services", "services' order", "berths", "berths' order", "berth's name", "copies", "copies' order",
		"service's name", "service's version", "service's image", "service's next", "service's want", "service's down", "service's over", "down and over",
		"service's per", "service's load", "service's least", "service's most", "least above most", "service's cool", "without per",
		"copy's service", "copy's number", "copy's version", "copy's image", "copy's state", "a berth while it waits", "no berth", "copy's berth",
	})
}

// checkValidBook holds StewValid against the second reading. Breaks are the conditions that the book does not meet, with a comma between.
func checkValidBook(t *testing.T, what string, b impl.StewBook, breaks string) {
	t.Helper()
	if got := impl.StewValid(b); got != (breaks == "") {
		t.Errorf("%s: StewValid is %v: %+v", what, got, b)
	}
	if got := strings.Join(modelBookFaults(b), ", "); got != breaks {
		t.Errorf("%s: the second reading finds %q, not %q: %+v", what, got, breaks, b)
	}
	checkCounts(t, what, b)
}

// fullBook is valid, and has some of all: a service without copies, one that follows its load, one that is gone, one whose numbers are at their end; copies in each state, Ending and not, old and new; berths that are to be drained and not.
func fullBook() impl.StewBook {
	return impl.StewBook{
		Now: 20,
		Services: []impl.StewService{
			{Name: "cache", Version: 1, Image: 1, Over: 1, Next: 1},
			{Name: "db", Version: 20, Image: 7, Want: 3, Down: 1, Next: 8, Per: 4, Least: 1, Most: 5, Load: 11, Cool: 2},
			{Name: "old", Version: 9, Gone: true, Image: 2, Want: 1, Down: 2, Over: 3, Next: 4},
			{Name: "web", Version: 11, Image: 1000000, Want: 10, Down: 10, Over: 10, Next: 1000000},
		},
		Copies: []impl.StewCopy{
			{Service: "db", Number: 1, Version: 1, Image: 7, State: impl.StewReady, Berth: "a"},
			{Service: "db", Number: 2, Version: 20, Image: 6, State: impl.StewStarting, Berth: "b"},
			{Service: "db", Number: 3, Version: 8, Image: 7, State: impl.StewReady, Ending: true, Berth: "a"},
			{Service: "db", Number: 5, Version: 9, Image: 7, State: impl.StewWaiting},
			{Service: "db", Number: 7, Version: 13, Image: 8, State: impl.StewFailed, Berth: "c"},
			{Service: "old", Number: 2, Version: 3, Image: 1, State: impl.StewWaiting, Ending: true},
			{Service: "old", Number: 3, Version: 4, Image: 2, State: impl.StewFailed, Ending: true, Berth: "b"},
			{Service: "web", Number: 1, Version: 5, Image: 1000000, State: impl.StewReady, Berth: "b"},
			{Service: "web", Number: 999999, Version: 6, Image: 1, State: impl.StewReady, Berth: "c"},
		},
		Berths: []impl.StewBerth{{Name: "a"}, {Name: "b", Drain: true}, {Name: "c"}},
	}
}

// randomBook is valid. Names are such as are the beginning of one another, and services and berths have some in common.
func randomBook(r *rand.Rand) impl.StewBook {
	names := []string{"-", "0", "a", "a-", "a-1", "a0", "aa", "b", "db", "web", "web-2"}
	b := impl.StewBook{Now: pickOf(r, 1, 2, 7, 999999, 1000000)}
	for _, n := range someOf(r, names, r.Intn(9)) {
		b.Services = append(b.Services, randomService(r, n, b.Now))
	}
	for _, n := range someOf(r, names, r.Intn(7)) {
		b.Berths = append(b.Berths, impl.StewBerth{Name: n, Drain: r.Intn(3) == 0})
	}
	for _, s := range b.Services {
		number := 0
		for range pickOf(r, 0, 1, 3, 9) {
			number += 1 + r.Intn(3)
			if number >= s.Next {
				break
			}
			b.Copies = append(b.Copies, randomStewCopy(r, b, s, number))
		}
	}
	return b
}

// someOf are so many of a list, in its order.
func someOf(r *rand.Rand, list []string, n int) []string {
	var some []string
	for _, at := range slices.Sorted(slices.Values(r.Perm(len(list))[:n])) {
		some = append(some, list[at])
	}
	return some
}

func randomService(r *rand.Rand, name string, now int) impl.StewService {
	s := impl.StewService{
		Name: name, Version: 1 + r.Intn(now), Gone: r.Intn(4) == 0, Image: 1 + r.Intn(3), Want: r.Intn(11),
		Down: pickOf(r, 0, 0, 1, 2, 10), Over: pickOf(r, 0, 0, 1, 2, 10), Next: pickOf(r, 1, 5, 20, 1000000),
	}
	if s.Down == 0 && s.Over == 0 {
		*pickOf(r, &s.Down, &s.Over) = 1
	}
	if r.Intn(2) == 0 {
		s.Per, s.Load, s.Most, s.Cool = 1+r.Intn(9), r.Intn(60), r.Intn(11), r.Intn(4)
		s.Least = r.Intn(s.Most + 1)
	}
	return s
}

func randomStewCopy(r *rand.Rand, b impl.StewBook, s impl.StewService, number int) impl.StewCopy {
	c := impl.StewCopy{Service: s.Name, Number: number, Version: 1 + r.Intn(b.Now), Image: pickOf(r, s.Image, s.Image, 1, 2, 3), State: impl.StewWaiting, Ending: r.Intn(4) == 0}
	if len(b.Berths) > 0 {
		c.State = 1 + r.Intn(4)
	}
	if c.State != impl.StewWaiting {
		c.Berth = pickOf(r, b.Berths...).Name
	}
	return c
}

// breakBook changes one thing, behind which a book mostly is not valid.
func breakBook(r *rand.Rand, b *impl.StewBook) {
	number := pickOf(r, math.MinInt, -1, 0, 1, 2, 3, 4, 5, 10, 11, 999999, 1000000, 1000001, math.MaxInt)
	text := pickOf(r, "", "-", "a", "a-", "b", "db", "web", "A", "a_b", "a b", strings.Repeat("z", 20), strings.Repeat("z", 21))
	switch what := r.Intn(10); {
	case what == 0:
		b.Now = number
	case what < 5 && len(b.Services) > 0:
		at := r.Intn(len(b.Services))
		s := &b.Services[at]
		switch r.Intn(10) {
		case 0:
			s.Name = text
		case 1:
			b.Services = slices.Insert(b.Services, r.Intn(len(b.Services)+1), *s)
		case 2:
			b.Services = slices.Delete(b.Services, at, at+1)
		default:
			*pickOf(r, &s.Version, &s.Image, &s.Want, &s.Down, &s.Over, &s.Next, &s.Per, &s.Least, &s.Most, &s.Load, &s.Cool) = number
		}
	case what < 8 && len(b.Copies) > 0:
		at := r.Intn(len(b.Copies))
		c := &b.Copies[at]
		switch r.Intn(6) {
		case 0:
			*pickOf(r, &c.Service, &c.Berth) = text
		case 1:
			other := r.Intn(len(b.Copies))
			b.Copies[at], b.Copies[other] = b.Copies[other], b.Copies[at]
		default:
			*pickOf(r, &c.Number, &c.Version, &c.Image, &c.State, &c.State) = number
		}
	case len(b.Berths) > 0:
		at := r.Intn(len(b.Berths))
		switch r.Intn(3) {
		case 0:
			b.Berths[at].Name = text
		case 1:
			b.Berths = slices.Insert(b.Berths, r.Intn(len(b.Berths)+1), b.Berths[at])
		default:
			b.Berths = slices.Delete(b.Berths, at, at+1)
		}
	}
}

// cloneBook shares nothing with its book, and has no room to spare.
func cloneBook(b impl.StewBook) impl.StewBook {
	b.Services, b.Copies, b.Berths = slices.Clip(slices.Clone(b.Services)), slices.Clip(slices.Clone(b.Copies)), slices.Clip(slices.Clone(b.Berths))
	return b
}

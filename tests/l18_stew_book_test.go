package tests

import (
	"fmt"
	"math"
	"math/rand"
	"reflect"
	"slices"
	"strings"
	"testing"

	"loop.example/wharffleet/impl"
)

// bookChange is a change of fullBook behind which it does not meet these conditions, or is valid if they are "".
type bookChange struct {
	what, breaks string
	change       func(b *impl.StewBook)
}

func checkBookChanges(t *testing.T, changes []bookChange) {
	t.Helper()
	for _, c := range changes {
		b := fullBook()
		c.change(&b)
		checkValidBook(t, c.what, b, c.breaks)
	}
}

func TestStewValidOrdinary(t *testing.T) {
	checkValidBook(t, "nothing", impl.StewBook{}, "")
	checkValidBook(t, "empty lists", impl.StewBook{Services: []impl.StewService{}, Copies: []impl.StewCopy{}, Berths: []impl.StewBerth{}}, "")
	checkValidBook(t, "a full one", fullBook(), "")
	checkBookChanges(t, []bookChange{
		{"no copies", "", func(b *impl.StewBook) { b.Copies = nil }},
		{"no copies and no services", "", func(b *impl.StewBook) { b.Copies, b.Services = nil, nil }},
		{"no copies and no berths", "", func(b *impl.StewBook) { b.Copies, b.Berths = nil, nil }},
		{"a service alone", "", func(b *impl.StewBook) { b.Services, b.Copies, b.Berths = b.Services[:1], nil, nil }},
		{"a service and its copies alone", "", func(b *impl.StewBook) { b.Services, b.Copies = b.Services[1:2], b.Copies[:5] }},
		{"berths alone", "", func(b *impl.StewBook) { *b = impl.StewBook{Berths: b.Berths} }},
		{"all are gone", "", func(b *impl.StewBook) {
			for i := range b.Services {
				b.Services[i].Gone = true
			}
		}},
		{"none is gone", "", func(b *impl.StewBook) { b.Services[2].Gone = false }},
		{"all berths are to be drained", "", func(b *impl.StewBook) { b.Berths[0].Drain, b.Berths[2].Drain = true, true }},
		{"more copies than are wanted", "", func(b *impl.StewBook) { b.Services[1].Want, b.Services[3].Want = 0, 0 }},
		{"a service and a berth with one name", "", func(b *impl.StewBook) { b.Services[0].Name = "a" }},
		{"a service with the name of a berth alone", "", func(b *impl.StewBook) {
			b.Services, b.Copies = []impl.StewService{b.Services[0]}, nil
			b.Services[0].Name = "c"
		}},
	})
	for _, state := range []int{impl.StewWaiting, impl.StewStarting, impl.StewReady, impl.StewFailed} {
		for _, ending := range []bool{false, true} {
			for _, image := range []int{6, 7, 8} {
				for _, berth := range []string{"a", "b", "c"} {
					checkOneCopy(t, "", func(c *impl.StewCopy) {
						c.State, c.Ending, c.Image, c.Berth = state, ending, image, berth
						if state == impl.StewWaiting {
							c.Berth = ""
						}
					})
				}
			}
		}
	}
}

// checkOneCopy asks of a book with one copy, of the service db, that is changed so.
func checkOneCopy(t *testing.T, breaks string, change func(c *impl.StewCopy)) {
	t.Helper()
	b := fullBook()
	b.Copies = []impl.StewCopy{{Service: "db", Number: 3, Version: 5, Image: 7, State: impl.StewReady, Berth: "b"}}
	change(&b.Copies[0])
	checkValidBook(t, fmt.Sprintf("%+v", b.Copies[0]), b, breaks)
}

// around are a least and a greatest number, those next to them, and those that are farthest.
func around(least, most int) []int {
	return []int{math.MinInt, math.MinInt + 1, least - 1, least, least + 1, most - 1, most, most + 1, math.MaxInt - 1, math.MaxInt}
}

// bookNumber is a number of fullBook, and from where to where it may be changed alone.
type bookNumber struct {
	what        string
	least, most int
	of          func(b *impl.StewBook) *int
}

func bookNumbers() []bookNumber {
	db := func(of func(s *impl.StewService) *int) func(b *impl.StewBook) *int {
		return func(b *impl.StewBook) *int { return of(&b.Services[1]) }
	}
	last := func(of func(c *impl.StewCopy) *int) func(b *impl.StewBook) *int {
		return func(b *impl.StewBook) *int { return of(&b.Copies[8]) }
	}
	return []bookNumber{
		{"service's version", 1, 20, db(func(s *impl.StewService) *int { return &s.Version })},
		{"service's image", 1, 1000000, db(func(s *impl.StewService) *int { return &s.Image })},
		{"service's want", 0, 10, db(func(s *impl.StewService) *int { return &s.Want })},
		{"service's down", 1, 10, db(func(s *impl.StewService) *int { return &s.Down })},
		{"service's down", 0, 10, func(b *impl.StewBook) *int { return &b.Services[0].Down }},
		{"service's over", 1, 10, func(b *impl.StewBook) *int { return &b.Services[0].Over }},
		{"service's over", 0, 10, db(func(s *impl.StewService) *int { return &s.Over })},
		{"service's next", 1, 1000000, func(b *impl.StewBook) *int { return &b.Services[0].Next }},
		{"service's next", 8, 1000000, db(func(s *impl.StewService) *int { return &s.Next })},
		{"service's per", 1, 1000000, db(func(s *impl.StewService) *int { return &s.Per })},
		{"service's load", 0, 1000000, db(func(s *impl.StewService) *int { return &s.Load })},
		{"service's least", 0, 5, db(func(s *impl.StewService) *int { return &s.Least })},
		{"service's most", 1, 10, db(func(s *impl.StewService) *int { return &s.Most })},
		{"service's cool", 0, 3, db(func(s *impl.StewService) *int { return &s.Cool })},
		{"copy's number", 2, 999999, last(func(c *impl.StewCopy) *int { return &c.Number })},
		{"copy's version", 1, 20, last(func(c *impl.StewCopy) *int { return &c.Version })},
		{"copy's image", 1, 1000000, last(func(c *impl.StewCopy) *int { return &c.Image })},
		{"copy's state", 2, 4, last(func(c *impl.StewCopy) *int { return &c.State })},
		{"now", 20, 1000000, func(b *impl.StewBook) *int { return &b.Now }},
	}
}

// Each number of a book is refused behind its ends, and taken from one to the other; what else a number that is refused breaks is the second reading's to say.
func TestStewValidNumbers(t *testing.T) {
	for _, c := range bookNumbers() {
		for _, n := range around(c.least, c.most) {
			b := fullBook()
			*c.of(&b) = n
			what := fmt.Sprintf("%s from %d to %d: %d", c.what, c.least, c.most, n)
			faults := modelBookFaults(b)
			if within := n >= c.least && n <= c.most; (len(faults) == 0) != within {
				t.Errorf("%s: the second reading finds %q", what, faults)
			}
			checkValidBook(t, what, b, strings.Join(faults, ", "))
		}
	}
	for _, n := range around(0, 1000000) {
		breaks := map[bool]string{false: "now"}[n >= 0 && n <= 1000000]
		checkValidBook(t, fmt.Sprint("nothing at ", n), impl.StewBook{Now: n}, breaks)
		checkValidBook(t, fmt.Sprint("a berth at ", n), impl.StewBook{Now: n, Berths: []impl.StewBerth{{Name: "a"}}}, breaks)
	}
}

// Where one number alone is refused, that is the condition that it breaks.
func TestStewValidNumbersAlone(t *testing.T) {
	service := func(n int, of func(s *impl.StewService) *int) func(b *impl.StewBook) {
		return func(b *impl.StewBook) {
			b.Copies = nil
			*of(&b.Services[1]) = n
		}
	}
	var changes []bookChange
	add := func(what string, change func(b *impl.StewBook)) {
		changes = append(changes, bookChange{what, what, change})
	}
	for _, n := range []int{math.MinInt, -1, 0, 21, math.MaxInt} {
		add("service's version", service(n, func(s *impl.StewService) *int { return &s.Version }))
		checkOneCopy(t, "copy's version", func(c *impl.StewCopy) { c.Version = n })
	}
	for _, n := range []int{math.MinInt, -1, 0, 1000001, math.MaxInt} {
		add("service's image", service(n, func(s *impl.StewService) *int { return &s.Image }))
		add("service's next", service(n, func(s *impl.StewService) *int { return &s.Next }))
		checkOneCopy(t, "copy's image", func(c *impl.StewCopy) { c.Image = n })
	}
	for _, n := range []int{math.MinInt, -1, 11, 1000, math.MaxInt} {
		add("service's want", service(n, func(s *impl.StewService) *int { return &s.Want }))
		add("service's down", service(n, func(s *impl.StewService) *int { return &s.Down }))
		add("service's over", service(n, func(s *impl.StewService) *int { return &s.Over }))
	}
	for _, n := range []int{math.MinInt, -1, 1000001, math.MaxInt} {
		add("service's per", service(n, func(s *impl.StewService) *int { return &s.Per }))
		add("service's load", service(n, func(s *impl.StewService) *int { return &s.Load }))
	}
	for _, n := range []int{math.MinInt, -1, 4, 5, math.MaxInt} {
		add("service's cool", service(n, func(s *impl.StewService) *int { return &s.Cool }))
	}
	for _, n := range []int{math.MinInt, -1} {
		add("service's least", service(n, func(s *impl.StewService) *int { return &s.Least }))
	}
	for _, n := range []int{11, math.MaxInt} {
		add("service's most", service(n, func(s *impl.StewService) *int { return &s.Most }))
	}
	for _, n := range []int{math.MinInt, -1, 0, 8, 9, 1000000, math.MaxInt} {
		checkOneCopy(t, "copy's number", func(c *impl.StewCopy) { c.Number = n })
	}
	for _, n := range []int{math.MinInt, -1, 0, 5, 6, 1<<32 + 3, math.MaxInt} {
		checkOneCopy(t, "copy's state", func(c *impl.StewCopy) { c.State = n })
	}
	checkBookChanges(t, changes)
}

// Versions are at most Now, whatever that is: in a book in which nothing has changed yet there is nothing but berths.
func TestStewValidVersions(t *testing.T) {
	for _, now := range []int{0, 1, 2, 20, 999999, 1000000} {
		for _, n := range []int{-1, 0, 1, now - 1, now, now + 1} {
			b := fullBook()
			b.Now, b.Services, b.Copies = now, b.Services[1:2], nil
			b.Services[0].Version = n
			within := n >= 1 && n <= now
			checkValidBook(t, fmt.Sprintf("a service of %d at %d", n, now), b, map[bool]string{false: "service's version"}[within])
			if now == 0 {
				continue
			}
			b.Services[0].Version = 1
			b.Copies = fullBook().Copies[:1]
			b.Copies[0].Version = n
			checkValidBook(t, fmt.Sprintf("a copy of %d at %d", n, now), b, map[bool]string{false: "copy's version"}[within])
		}
	}
}

func TestStewValidNext(t *testing.T) {
	for _, next := range []int{1, 2, 3, 8, 999999, 1000000} {
		for _, n := range []int{-1, 0, 1, next - 2, next - 1, next, next + 1} {
			b := fullBook()
			b.Services[1].Next = next
			b.Copies = b.Copies[:1]
			b.Copies[0].Number = n
			checkValidBook(t, fmt.Sprintf("number %d, next %d", n, next), b, map[bool]string{false: "copy's number"}[n >= 1 && n < next])
		}
	}
	// Next is of the copy's own service.
	checkBookChanges(t, []bookChange{
		{"the next of another service", "copy's number", func(b *impl.StewBook) { b.Copies = b.Copies[5:]; b.Copies[1].Number = 7 }},
		{"no copy yet", "copy's number", func(b *impl.StewBook) { b.Copies = b.Copies[4:]; b.Copies[0].Service, b.Copies[0].Number = "cache", 1 }},
		{"the least number ahead of a next that is too small", "copy's number, service's next", func(b *impl.StewBook) { b.Copies = b.Copies[:1]; b.Services[1].Next = math.MinInt }},
	})
}

// Down and Over may each be 0, but not both.
func TestStewValidSpare(t *testing.T) {
	for down := -1; down <= 11; down++ {
		for over := -1; over <= 11; over++ {
			var breaks []string
			if down == 0 && over == 0 {
				breaks = append(breaks, "down and over")
			}
			if down < 0 || down > 10 {
				breaks = append(breaks, "service's down")
			}
			if over < 0 || over > 10 {
				breaks = append(breaks, "service's over")
			}
			for at := range 4 {
				b := fullBook()
				b.Services[at].Down, b.Services[at].Over = down, over
				checkValidBook(t, fmt.Sprintf("service %d, down %d, over %d", at, down, over), b, strings.Join(breaks, ", "))
			}
		}
	}
}

// Least may be as great as Most, and Want need be neither above the one nor below the other.
func TestStewValidLeastAndMost(t *testing.T) {
	for least := range 11 {
		for most := range 11 {
			for _, want := range []int{0, 5, 10} {
				b := fullBook()
				b.Services[1].Least, b.Services[1].Most, b.Services[1].Want = least, most, want
				breaks := map[bool]string{false: "least above most"}[least <= most]
				checkValidBook(t, fmt.Sprintf("least %d, most %d, want %d", least, most, want), b, breaks)
			}
		}
	}
	for _, c := range []struct {
		least, most int
		breaks      string
	}{
		{11, 11, "service's least, service's most"}, {-1, -1, "service's least, service's most"}, {0, -1, "least above most, service's most"},
		{11, 10, "least above most, service's least"}, {-1, 0, "service's least"}, {10, 11, "service's most"},
		{math.MinInt, math.MaxInt, "service's least, service's most"}, {math.MaxInt, math.MinInt, "least above most, service's least, service's most"},
		{math.MinInt, 3, "service's least"}, {3, math.MaxInt, "service's most"},
	} {
		b := fullBook()
		b.Services[1].Least, b.Services[1].Most = c.least, c.most
		checkValidBook(t, fmt.Sprintf("least %d, most %d", c.least, c.most), b, c.breaks)
	}
}

// With a Per of 0 nothing follows the load, and there is nothing to say of it; Want, Down and Over are free.
func TestStewValidPer(t *testing.T) {
	type rest struct{ least, most, load, cool int }
	for _, c := range []struct {
		rest
		breaks []string // also with a Per
	}{
		{rest{}, nil},
		{rest{least: 1}, []string{"least above most"}},
		{rest{most: 1}, nil}, {rest{most: 10}, nil},
		{rest{load: 1}, nil}, {rest{load: 1000000}, nil},
		{rest{cool: 1}, nil}, {rest{cool: 3}, nil},
		{rest{least: 1, most: 1}, nil},
		{rest{least: 2, most: 9, load: 100, cool: 3}, nil},
		{rest{least: -1}, []string{"service's least"}},
		{rest{most: -1}, []string{"least above most", "service's most"}},
		{rest{load: -1}, []string{"service's load"}},
		{rest{cool: -1}, []string{"service's cool"}},
	} {
		for _, per := range []int{0, 1, 2, 999999, 1000000, 1000001, -1} {
			breaks := slices.Clone(c.breaks)
			if per == 0 && c.rest != (rest{}) {
				breaks = append(breaks, "without per")
			}
			if per < 0 || per > 1000000 {
				breaks = append(breaks, "service's per")
			}
			for _, want := range []int{0, 1, 10} {
				for _, gone := range []bool{false, true} {
					b := fullBook()
					s := &b.Services[1]
					s.Per, s.Want, s.Gone = per, want, gone
					s.Least, s.Most, s.Load, s.Cool = c.least, c.most, c.load, c.cool
					checkValidBook(t, fmt.Sprintf("per %d, %+v, want %d, gone %v", per, c.rest, want, gone), b, strings.Join(modelSet(breaks), ", "))
				}
			}
		}
	}
}

// stewNames are names, up to their limits, and texts that are none, of each kind.
func stewNames() (names, others []string) {
	names = []string{"a", "z", "m", "0", "9", "-", "--", "a-", "-a", "0a", "a-b-0", "web", strings.Repeat("a", 19), strings.Repeat("z", 20), strings.Repeat("-", 20), "abcdefghij-123456-89"}
	others = []string{"", strings.Repeat("a", 21), strings.Repeat("-", 21), strings.Repeat("x", 5000), "Web", "A", "Z", "a_b", "_", "a b", " a", "a ", "a\n", "\na", "a\x00", "\x00", "a.b", "a=b", "a/b", "a:b", "`", "{", "/", ":", ",", ".", "é", "ж", "\xff", "a\xff", "\u0430", strings.Repeat("é", 10)}
	return names, others
}

func TestStewValidNames(t *testing.T) {
	names, others := stewNames()
	set := func(name, breaks string) {
		t.Helper()
		checkBookChanges(t, []bookChange{
			{fmt.Sprintf("a service %q", name), strings.Replace(breaks, "NAME", "service's name", 1), func(b *impl.StewBook) {
				b.Services, b.Copies = b.Services[:1], nil
				b.Services[0].Name = name
			}},
			{fmt.Sprintf("a berth %q", name), strings.Replace(breaks, "NAME", "berth's name", 1), func(b *impl.StewBook) {
				b.Copies, b.Berths = nil, []impl.StewBerth{{Name: name}}
			}},
		})
	}
	for _, name := range names {
		set(name, "")
		// A copy is of a service with such a name, on a berth with such a name.
		checkBookChanges(t, []bookChange{{fmt.Sprintf("a copy of %q on %q", name, name), "", func(b *impl.StewBook) {
			b.Services, b.Copies, b.Berths = b.Services[1:2], b.Copies[:1], b.Berths[:1]
			b.Services[0].Name, b.Copies[0].Service, b.Copies[0].Berth, b.Berths[0].Name = name, name, name, name
		}}})
	}
	for _, name := range others {
		set(name, "NAME")
	}
	for c := range 256 {
		letter := c >= 'a' && c <= 'z' || c >= '0' && c <= '9' || c == '-'
		for _, name := range []string{string([]byte{byte(c)}), string([]byte{'a', byte(c), 'a'}), strings.Repeat("a", 19) + string([]byte{byte(c)})} {
			set(name, map[bool]string{false: "NAME"}[letter])
		}
	}
}

// What ascends, and what does not: byte by byte, a beginning first.
func nameOrders() (ascend, others [][]string) {
	ascend = [][]string{{"-", "0", "9", "a", "z"}, {"a", "a-", "a-a", "a0", "aa"}, {"web", "web-2"}, {"a10", "a9"}, {"1a", "9"}, {"a", "b", "c", "d", "e", "f"}}
	others = [][]string{{"a", "a"}, {"b", "a"}, {"a-", "a"}, {"a0", "a-"}, {"aa", "a0"}, {"a9", "a10"}, {"a", "b", "b"}, {"a", "b", "a"}, {"a", "c", "b"}, {"b", "a", "c"}, {"a", "b", "c", "d", "f", "e"}, {"0", "-"}, {"a", "9"}}
	return ascend, others
}

func TestStewValidOrders(t *testing.T) {
	set := func(names []string, breaks string) {
		t.Helper()
		checkBookChanges(t, []bookChange{
			{fmt.Sprintf("services %q", names), strings.Replace(breaks, "THEIR", "services'", 1), func(b *impl.StewBook) {
				one := b.Services[1]
				b.Services, b.Copies = nil, nil
				for _, name := range names {
					one.Name = name
					b.Services = append(b.Services, one)
				}
			}},
			{fmt.Sprintf("berths %q", names), strings.Replace(breaks, "THEIR", "berths'", 1), func(b *impl.StewBook) {
				b.Copies, b.Berths = nil, nil
				for _, name := range names {
					b.Berths = append(b.Berths, impl.StewBerth{Name: name})
				}
			}},
			{fmt.Sprintf("copies of %q", names), strings.Replace(breaks, "THEIR", "copies'", 1), func(b *impl.StewBook) {
				copies := b.Copies[:1]
				b.Copies, b.Services = nil, servicesCalled(modelSet(names)...)
				for _, name := range names {
					copies[0].Service = name
					b.Copies = append(b.Copies, copies[0])
				}
			}},
		})
	}
	ascend, others := nameOrders()
	for _, names := range ascend {
		set(names, "")
	}
	for _, names := range others {
		set(names, "THEIR order")
	}
	// The same name twice is refused, whatever else is other in the two.
	checkBookChanges(t, []bookChange{
		{"a service twice, gone and not", "services' order", func(b *impl.StewBook) { b.Services[3].Name, b.Copies = "old", nil }},
		{"a berth twice, to be drained and not", "berths' order", func(b *impl.StewBook) { b.Copies, b.Berths[1].Name = nil, "a" }},
		{"a copy twice, Ending and not", "copies' order", func(b *impl.StewBook) { b.Copies[2].Number = 2 }},
	})
}

// servicesCalled are such as can have many copies.
func servicesCalled(names ...string) []impl.StewService {
	var list []impl.StewService
	for _, name := range names {
		list = append(list, impl.StewService{Name: name, Version: 1, Image: 1, Want: 3, Down: 1, Next: 1000000})
	}
	return list
}

// Copies ascend by Service, and then by Number: as a number, not as a text, and not by the two put together.
func TestStewValidCopiesAscend(t *testing.T) {
	for _, c := range []struct {
		list   string
		breaks string
	}{
		{"a 1, a 2, a 3", ""}, {"a 1, a 3, a 7", ""}, {"a 2, a 10, a 100", ""}, {"a 9, a 10", ""}, {"a 999998, a 999999", ""},
		{"a 9, a- 1, a-1 5, a0 2, aa 1", ""}, {"a 5, b 1", ""}, {"a 5, b 5, web 5, web-2 5", ""}, {"web 22, web-2 1", ""}, {"a 21, a-2 1, a-21 1, a2 1", ""},
		{"a 1, a 1", "copies' order"}, {"a 2, a 1", "copies' order"}, {"a 10, a 9", "copies' order"}, {"a 1, a 3, a 2", "copies' order"}, {"a 1, a 2, a 1", "copies' order"},
		{"b 1, a 2", "copies' order"}, {"b 1, a 1", "copies' order"}, {"a- 1, a 9", "copies' order"}, {"aa 1, a 1", "copies' order"}, {"web-2 1, web 22", "copies' order"},
		{"a 1, b 1, a 2", "copies' order"}, {"a 1, b 2, b 1", "copies' order"}, {"a 1, b 1, b 1", "copies' order"}, {"a0 1, a-1 1", "copies' order"},
	} {
		b := impl.StewBook{Now: 5, Berths: []impl.StewBerth{{Name: "x"}}}
		var names []string
		for _, text := range strings.Split(c.list, ", ") {
			one := impl.StewCopy{Version: 1, Image: 1, State: impl.StewReady, Berth: "x"}
			fmt.Sscan(text, &one.Service, &one.Number)
			names = append(names, one.Service)
			b.Copies = append(b.Copies, one)
		}
		b.Services = servicesCalled(modelSet(names)...)
		checkValidBook(t, c.list, b, c.breaks)
	}
}

func TestStewValidWhatIsNamed(t *testing.T) {
	service := func(name string) func(b *impl.StewBook) {
		return func(b *impl.StewBook) { b.Copies = b.Copies[8:]; b.Copies[0].Service = name }
	}
	checkBookChanges(t, []bookChange{
		{"a service that is not there", "copy's service", service("other")},
		{"a beginning of a service", "copy's service", service("we")},
		{"more than a service", "copy's service", service("web-")},
		{"no service", "copy's service", service("")},
		{"a berth as a service", "copy's service", service("a")},
		{"no services", "copy's service", func(b *impl.StewBook) { b.Services = nil }},
		{"the last service is not there", "copy's service", func(b *impl.StewBook) { b.Services = b.Services[:3] }},
		{"the first service is not there", "", func(b *impl.StewBook) { b.Services = b.Services[1:] }},
		{"no berths", "copy's berth", func(b *impl.StewBook) { b.Berths = nil }},
		{"no berths, and all wait", "", func(b *impl.StewBook) {
			b.Berths = nil
			for i := range b.Copies {
				b.Copies[i].State, b.Copies[i].Berth = impl.StewWaiting, ""
			}
		}},
		{"the last berth is not there", "copy's berth", func(b *impl.StewBook) { b.Berths = b.Berths[:2] }},
	})
	for state := 1; state <= 4; state++ {
		for _, ending := range []bool{false, true} {
			for berth, breaks := range map[string]string{"": "no berth", "a": "", "b": "", "c": "", "d": "copy's berth", "db": "copy's berth", "A": "copy's berth", "a ": "copy's berth", "\x00": "copy's berth"} {
				switch {
				case state == impl.StewWaiting && berth == "":
					breaks = ""
				case state == impl.StewWaiting:
					breaks = "a berth while it waits"
				}
				checkOneCopy(t, breaks, func(c *impl.StewCopy) { c.State, c.Ending, c.Berth = state, ending, berth })
			}
		}
	}
	// A berth without a name is none, so that nothing stands there.
	checkBookChanges(t, []bookChange{{"the berth without a name", "berth's name, no berth", func(b *impl.StewBook) {
		b.Berths = append([]impl.StewBerth{{}}, b.Berths...)
		b.Copies[0].Berth = ""
	}}})
}

// Each of a list is asked, wherever it stands.
func TestStewValidOfEach(t *testing.T) {
	for at := range 4 {
		for breaks, change := range map[string]func(s *impl.StewService){
			"service's version": func(s *impl.StewService) { s.Version = 21 },
			"service's image":   func(s *impl.StewService) { s.Image = 0 },
			"service's want":    func(s *impl.StewService) { s.Want = 11 },
			"down and over":     func(s *impl.StewService) { s.Down, s.Over = 0, 0 },
			"service's per":     func(s *impl.StewService) { s.Per = -1 },
			"without per":       func(s *impl.StewService) { s.Per, s.Least, s.Most, s.Load, s.Cool = 0, 0, 0, 0, 1 },
			"least above most":  func(s *impl.StewService) { s.Per, s.Least, s.Most = 1, 3, 2 },
		} {
			b := fullBook()
			change(&b.Services[at])
			checkValidBook(t, fmt.Sprint("service ", at), b, breaks)
		}
	}
	for at := range 9 {
		for breaks, change := range map[string]func(c *impl.StewCopy){
			"copy's version": func(c *impl.StewCopy) { c.Version = 0 },
			"copy's image":   func(c *impl.StewCopy) { c.Image = 1000001 },
			"copy's state":   func(c *impl.StewCopy) { c.State, c.Berth = 5, "a" },
			"copy's berth":   func(c *impl.StewCopy) { c.State, c.Berth = 4, "d" },
		} {
			b := fullBook()
			change(&b.Copies[at])
			checkValidBook(t, fmt.Sprint("copy ", at), b, breaks)
		}
	}
	for at := range 3 {
		b := fullBook()
		b.Copies = nil
		b.Berths[at].Name += "_"
		checkValidBook(t, fmt.Sprint("berth ", at), b, "berth's name")
	}
}

// greatBook has so many of each, all of them at their greatest.
func greatBook(services, copies, berths int) impl.StewBook {
	long := func(name string) string { return (name + strings.Repeat("z", 20))[:20] }
	b := impl.StewBook{Now: 1000000}
	b.Services = numbered(services, func(name string) impl.StewService {
		return impl.StewService{Name: long(name), Version: 1000000, Image: 1000000, Want: 10, Down: 10, Over: 10, Next: 1000000, Per: 1000000, Least: 10, Most: 10, Load: 1000000, Cool: 3}
	})
	b.Berths = numbered(berths, func(name string) impl.StewBerth { return impl.StewBerth{Name: long(name), Drain: true} })
	for i := range copies {
		of := b.Services[i*services/copies].Name
		b.Copies = append(b.Copies, impl.StewCopy{Service: of, Number: 999999 - copies + 1 + i, Version: 1000000, Image: 1000000, State: impl.StewFailed, Berth: b.Berths[i%berths].Name})
	}
	return b
}

func TestStewValidGreat(t *testing.T) {
	for _, c := range []struct {
		services, copies, berths int
		breaks                   string
	}{
		{8, 200, 6, ""}, {8, 199, 5, ""}, {7, 200, 6, ""}, {1, 200, 1, ""}, {8, 0, 0, ""}, {0, 0, 6, ""},
		{9, 200, 6, "services"}, {8, 201, 6, "copies"}, {8, 200, 7, "berths"}, {1, 201, 1, "copies"}, {9, 201, 7, "berths, copies, services"},
		{9, 0, 0, "services"}, {0, 0, 7, "berths"}, {100, 1000, 100, "berths, copies, services"},
	} {
		checkValidBook(t, fmt.Sprintf("%d, %d and %d", c.services, c.copies, c.berths), greatBook(c.services, c.copies, c.berths), c.breaks)
	}
	// The last one is asked, too.
	b := greatBook(8, 200, 6)
	b.Copies[199].Number = 1000000
	checkValidBook(t, "the last copy", b, "copy's number")
	b = greatBook(8, 200, 6)
	b.Services[7].Cool = 4
	checkValidBook(t, "the last service", b, "service's cool")
	b = greatBook(8, 0, 6)
	b.Berths[5].Name += "z"
	checkValidBook(t, "the last berth", b, "berth's name")
	inGoodTime(t, "lists that are far too long", func() {
		b := fullBook()
		b.Copies = slices.Repeat(b.Copies, 20000)
		checkNoBook(t, "copies", b)
		b = fullBook()
		b.Services = slices.Repeat(b.Services, 50000)
		checkNoBook(t, "services", b)
		b = fullBook()
		b.Berths = slices.Repeat(b.Berths, 50000)
		checkNoBook(t, "berths", b)
		b = fullBook()
		b.Services[0].Name, b.Berths[0].Name, b.Copies[0].Berth = strings.Repeat("a", 10000000), strings.Repeat("a", 10000000), strings.Repeat("a", 10000000)
		checkNoBook(t, "names", b)
	})
}

// checkNoBook does without the second reading, and without telling what may be very long.
func checkNoBook(t *testing.T, what string, b impl.StewBook) {
	t.Helper()
	if impl.StewValid(b) {
		t.Errorf("%s: it is valid", what)
	}
	for _, name := range []string{"", "cache", "db", "old", "web"} {
		if got := impl.StewCountOf(b, name); got != (impl.StewCount{}) {
			t.Errorf("%s: StewCountOf %q is %+v", what, name, got)
		}
	}
}

// The greatest and the least int as every number: one by one, and all at once.
func TestStewValidFarthestNumbers(t *testing.T) {
	farthest := []int{math.MinInt, math.MinInt + 1, math.MaxInt - 1, math.MaxInt}
	for _, n := range farthest {
		whole := fullBook()
		all := numbersOf(&whole)
		if len(all) != 1+4*11+9*4 { // of the book, its services and its copies
			t.Fatalf("a book has %d numbers", len(all))
		}
		for _, number := range all {
			number.SetInt(int64(n))
		}
		checkNoBook(t, fmt.Sprint("all are ", n), whole)
		for i := range all {
			b := fullBook()
			numbersOf(&b)[i].SetInt(int64(n))
			checkNoBook(t, fmt.Sprintf("number %d is %d", i, n), b)
			if len(modelBookFaults(b)) == 0 {
				t.Errorf("number %d is %d: the second reading finds nothing", i, n)
			}
		}
	}
}

// numbersOf are all numbers of a book, to be set.
func numbersOf(b *impl.StewBook) []reflect.Value {
	return partsOf(reflect.ValueOf(b).Elem(), reflect.Int)
}

func TestStewValidAsRead(t *testing.T) {
	t.Parallel()
	r := rand.New(rand.NewSource(181))
	met := map[string]int{}
	for range 20000 {
		b := randomBook(r)
		checkValidBook(t, "a drawn book", b, "")
		for range 1 + r.Intn(2) {
			breakBook(r, &b)
		}
		faults := modelBookFaults(b)
		checkValidBook(t, "a changed book", b, strings.Join(faults, ", "))
		for _, f := range faults {
			met[f]++
		}
		met["valid"] += map[bool]int{true: 1}[len(faults) == 0]
		if t.Failed() {
			return
		}
	}
	for _, f := range append(allBookFaults(), "valid") {
		if few := met[f] < 20; few && f != "copies" {
			t.Errorf("%q was met %d times: the books tell too little", f, met[f])
		}
	}
}

// bookWithRoom has room behind the ends of its lists, filled, so that a write there is seen.
func bookWithRoom(b impl.StewBook) impl.StewBook {
	b.Services = append(slices.Clone(b.Services), impl.StewService{Name: "behind", Next: 9}, impl.StewService{Name: "farther"})[:len(b.Services)]
	b.Copies = append(slices.Clone(b.Copies), impl.StewCopy{Service: "behind", Number: 8}, impl.StewCopy{Berth: "farther"})[:len(b.Copies)]
	b.Berths = append(slices.Clone(b.Berths), impl.StewBerth{Name: "behind", Drain: true}, impl.StewBerth{Name: "farther"})[:len(b.Berths)]
	return b
}

// wholeBook is such a book with what stands behind its ends.
func wholeBook(b impl.StewBook) impl.StewBook {
	b.Services, b.Copies, b.Berths = b.Services[:len(b.Services)+2], b.Copies[:len(b.Copies)+2], b.Berths[:len(b.Berths)+2]
	return cloneBook(b)
}

// checkBookUnchanged holds that a call writes nothing into a book or behind the ends of its lists.
func checkBookUnchanged(t *testing.T, b impl.StewBook, call func(b impl.StewBook)) {
	t.Helper()
	b = bookWithRoom(b)
	before := wholeBook(b)
	call(b)
	if after := wholeBook(b); !reflect.DeepEqual(before, after) {
		t.Errorf("the book was %+v, and is %+v", before, after)
	}
}

// What stands behind the ends of the lists is not of the book, and is as it was.
func TestStewBookIsNotChanged(t *testing.T) {
	r := rand.New(rand.NewSource(182))
	ask := func(b impl.StewBook) {
		valid := impl.StewValid(b)
		if alone := cloneBook(b); impl.StewValid(alone) != valid {
			t.Errorf("what stands behind is asked: %+v", b)
		}
		for _, name := range []string{"", "a", "db", "web", "behind", "farther"} {
			if impl.StewCountOf(b, name) != impl.StewCountOf(cloneBook(b), name) {
				t.Errorf("what stands behind is counted: %+v", b)
			}
		}
	}
	for _, b := range []impl.StewBook{{}, fullBook(), greatBook(8, 200, 6), greatBook(9, 201, 7)} {
		checkBookUnchanged(t, b, ask)
	}
	for i := range 600 {
		b := randomBook(r)
		if i%2 == 0 {
			breakBook(r, &b)
		}
		checkBookUnchanged(t, b, ask)
	}
}

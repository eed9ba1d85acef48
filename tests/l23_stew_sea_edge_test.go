package tests

import (
	"fmt"
	"math"
	"math/rand"
	"reflect"
	"slices"
	"strings"
	"testing"

	"loop.example/wharffleet/impl"
)

func wishOf(s impl.StewService) impl.StewEvent {
	return impl.StewEvent{Kind: impl.StewWish, Service: s}
}

// A service that is there has all of the wish but Version, Next and Cool; a new one has these of its own, too.
func TestStewWish(t *testing.T) {
	wish := impl.StewService{Name: "db", Version: 99, Gone: true, Image: 9, Want: 8, Down: 7, Over: 6, Next: 55, Per: 5, Least: 4, Most: 9, Load: 3, Cool: 3}
	next := checkSeaCode(t, "one that is there", fullBook(), wishOf(wish), 0)
	want := fullBook()
	want.Now = 21
	want.Services[1] = impl.StewService{Name: "db", Version: 21, Gone: true, Image: 9, Want: 8, Down: 7, Over: 6, Next: 8, Per: 5, Least: 4, Most: 9, Load: 3}
	if !sameBook(next, want) {
		t.Errorf("one that is there: %+v\nnot %+v", next, want)
	}
	wish.Name = "new"
	next = checkSeaCode(t, "a new one", fullBook(), wishOf(wish), 0)
	want = fullBook()
	want.Now = 21
	want.Services = slices.Insert(want.Services, 2, impl.StewService{Name: "new", Version: 21, Gone: true, Image: 9, Want: 8, Down: 7, Over: 6, Next: 1, Per: 5, Least: 4, Most: 9, Load: 3})
	if !sameBook(next, want) {
		t.Errorf("a new one: %+v\nnot %+v", next, want)
	}
	// What is as it was is a wish like another.
	b := fullBook()
	b.Services[1].Cool = 0
	next = checkSeaCode(t, "as it was", b, wishOf(b.Services[1]), 0)
	b.Now, b.Services[1].Version = 21, 21
	if !sameBook(next, b) {
		t.Errorf("as it was: %+v", next)
	}
}

// Each part of a wish alone, of a service that is there, is its own.
func TestStewWishPartByPart(t *testing.T) {
	base := impl.StewService{Name: "db", Version: 20, Image: 7, Want: 3, Down: 1, Over: 2, Next: 8, Per: 4, Least: 2, Most: 5, Load: 11}
	for what, c := range map[string]struct{ change, keeps func(s *impl.StewService) }{
		"gone":    {change: func(s *impl.StewService) { s.Gone = true }},
		"image":   {change: func(s *impl.StewService) { s.Image = 8 }},
		"want":    {change: func(s *impl.StewService) { s.Want = 0 }},
		"down":    {change: func(s *impl.StewService) { s.Down = 0 }},
		"over":    {change: func(s *impl.StewService) { s.Over = 0 }},
		"per":     {change: func(s *impl.StewService) { s.Per = 40 }},
		"least":   {change: func(s *impl.StewService) { s.Least = 0 }},
		"most":    {change: func(s *impl.StewService) { s.Most = 2 }},
		"load":    {change: func(s *impl.StewService) { s.Load = 0 }},
		"nothing": {change: func(s *impl.StewService) {}},
		"no per":  {change: func(s *impl.StewService) { s.Per, s.Least, s.Most, s.Load = 0, 0, 0, 0 }},
		"version": {change: func(s *impl.StewService) { s.Version = 3 }, keeps: func(s *impl.StewService) { s.Version = 21 }},
		"next":    {change: func(s *impl.StewService) { s.Next = 4 }, keeps: func(s *impl.StewService) { s.Next = 8 }},
		"cool":    {change: func(s *impl.StewService) { s.Cool = 2 }, keeps: func(s *impl.StewService) { s.Cool = 0 }},
	} {
		for cool := range 4 {
			b := fullBook()
			b.Services[1] = base
			b.Services[1].Cool = cool
			wish := base
			c.change(&wish)
			want := wish
			want.Version = 21
			if c.keeps != nil {
				c.keeps(&want)
			}
			next := checkSeaCode(t, what, b, wishOf(wish), 0)
			if next.Services[1] != want || !slices.Equal(next.Copies, b.Copies) {
				t.Errorf("%s: %+v, not %+v", what, next.Services[1], want)
			}
		}
	}
}

// A Version, a Next and a Cool in the wish are not asked, whatever they are.
func TestStewWishNotAsked(t *testing.T) {
	for _, name := range []string{"cache", "db", "new", "old", "zz"} {
		for _, n := range []int{math.MinInt, -1, 0, 1, 3, 4, 8, 20, 21, 22, 1000000, 1000001, math.MaxInt} {
			for _, per := range []int{0, 2} {
				wish := impl.StewService{Name: name, Version: n, Image: 3, Want: 2, Down: 1, Next: n, Per: per, Cool: n}
				b := fullBook()
				want := 1
				for _, s := range b.Services {
					if s.Name == name {
						want = s.Next
					}
				}
				next := checkSeaCode(t, fmt.Sprintf("%q with %d", name, n), b, wishOf(wish), 0)
				for _, s := range next.Services {
					if s.Name == name && (s.Version != 21 || s.Next != want || s.Cool != 0) {
						t.Errorf("%+v", s)
					}
				}
			}
		}
	}
}

// A new one comes to stand at its place, one that is there stays at its own.
func TestStewWishPlaces(t *testing.T) {
	names := []string{"-", "0", "a", "a-", "a-1", "a0", "aa", "b", "web", "z"}
	for at, name := range names {
		for size := range 8 {
			for from := range len(names) - size {
				others := slices.DeleteFunc(slices.Clone(names[from:from+size+1]), func(other string) bool { return other == name })
				if len(others) > 7 {
					continue
				}
				b := impl.StewBook{Now: 7, Services: servicesCalled(others...), Berths: []impl.StewBerth{{Name: name}}}
				next := checkSeaCode(t, "a new one", b, wishOf(impl.StewService{Name: name, Image: at + 2, Over: 1}), 0)
				var got []string
				for _, s := range next.Services {
					got = append(got, s.Name)
					if isNew := s.Name == name; isNew != (s.Version == 8) || isNew != (s.Next == 1) || isNew != (s.Image == at+2) {
						t.Errorf("%q beside %q: %+v", name, others, s)
					}
				}
				if !slices.Equal(got, modelSet(append(others, name))) {
					t.Errorf("%q beside %q: %q", name, others, got)
				}
				again := checkSeaCode(t, "one that is there", next, wishOf(impl.StewService{Name: name, Image: 1000, Down: 1}), 0)
				if place := slices.Index(got, name); len(again.Services) != len(got) || again.Services[place].Name != name || again.Services[place].Image != 1000 || again.Services[place].Version != 9 {
					t.Errorf("%q beside %q again: %+v", name, others, again)
				}
			}
		}
	}
}

func TestStewWishMaxServices(t *testing.T) {
	names := []string{"b", "c", "d", "e", "f", "g", "h", "i"}
	wish := func(name string) impl.StewEvent {
		return wishOf(impl.StewService{Name: name, Image: 5, Want: 1, Over: 1})
	}
	for _, name := range []string{"a", "b-", "ee", "z"} {
		b := impl.StewBook{Now: 7, Services: servicesCalled(names[:7]...)}
		b = checkSeaCode(t, "the eighth", b, wish(name), 0)
		if len(b.Services) != 8 {
			t.Errorf("%+v", b)
		}
		checkSeaCode(t, "the ninth", b, wish("j"), 2)
		checkSeaCode(t, "the eighth again", b, wish(name), 0)
	}
	b := impl.StewBook{Now: 7, Services: servicesCalled(names...)}
	for _, name := range []string{"a", "b-", "ee", "z"} {
		checkSeaCode(t, "the ninth", b, wish(name), 2)
	}
	for _, name := range names {
		checkSeaCode(t, "one of eight", b, wish(name), 0)
	}
	// That one is Gone makes no room.
	b.Services[0].Gone = true
	checkSeaCode(t, "beside one that is Gone", b, wish("a"), 2)
}

// Each bound of a service is met exactly, and passed by one.
func TestStewWishBounds(t *testing.T) {
	for _, c := range []struct {
		what        string
		least, most int
		of          func(s *impl.StewService) *int
	}{
		{"image", 1, 1000000, func(s *impl.StewService) *int { return &s.Image }},
		{"want", 0, 10, func(s *impl.StewService) *int { return &s.Want }},
		{"down", 0, 10, func(s *impl.StewService) *int { return &s.Down }},
		{"over", 0, 10, func(s *impl.StewService) *int { return &s.Over }},
		{"per", 1, 1000000, func(s *impl.StewService) *int { return &s.Per }},
		{"load", 0, 1000000, func(s *impl.StewService) *int { return &s.Load }},
		{"least", 0, 5, func(s *impl.StewService) *int { return &s.Least }},
		{"most", 2, 10, func(s *impl.StewService) *int { return &s.Most }},
	} {
		for _, n := range around(c.least, c.most) {
			for _, name := range []string{"db", "new"} {
				wish := impl.StewService{Name: name, Image: 3, Want: 2, Down: 1, Over: 1, Per: 4, Least: 2, Most: 5, Load: 6}
				*c.of(&wish) = n
				code := 2
				if n >= c.least && n <= c.most {
					code = 0
				}
				next := checkSeaCode(t, fmt.Sprintf("%s of %s: %d", c.what, name, n), fullBook(), wishOf(wish), code)
				for _, s := range next.Services {
					if code == 0 && s.Name == name && *c.of(&s) != n {
						t.Errorf("%s of %s: %+v", c.what, name, s)
					}
				}
			}
		}
	}
}

func TestStewWishTogether(t *testing.T) {
	wish := impl.StewService{Image: 3, Want: 2, Down: 1}
	for what, c := range map[string]struct {
		code   int
		change func(s *impl.StewService)
	}{
		"down alone":               {0, func(s *impl.StewService) {}},
		"over alone":               {0, func(s *impl.StewService) { s.Down, s.Over = 0, 1 }},
		"neither down nor over":    {2, func(s *impl.StewService) { s.Down = 0 }},
		"without per, load":        {2, func(s *impl.StewService) { s.Load = 1 }},
		"without per, most":        {2, func(s *impl.StewService) { s.Most = 1 }},
		"without per, both":        {2, func(s *impl.StewService) { s.Least, s.Most = 1, 1 }},
		"without per, cool":        {0, func(s *impl.StewService) { s.Cool = 1 }},
		"with per, nothing else":   {0, func(s *impl.StewService) { s.Per = 1 }},
		"least as most":            {0, func(s *impl.StewService) { s.Per, s.Least, s.Most = 1, 10, 10 }},
		"least above most":         {2, func(s *impl.StewService) { s.Per, s.Least, s.Most = 1, 6, 5 }},
		"want below least":         {0, func(s *impl.StewService) { s.Per, s.Least, s.Most, s.Want = 1, 6, 7, 0 }},
		"want above most":          {0, func(s *impl.StewService) { s.Per, s.Least, s.Most, s.Want = 1, 0, 1, 10 }},
		"gone":                     {0, func(s *impl.StewService) { s.Gone = true }},
		"gone, and else not valid": {2, func(s *impl.StewService) { s.Gone, s.Image = true, 0 }},
		"nothing":                  {2, func(s *impl.StewService) { *s = impl.StewService{Name: s.Name} }},
	} {
		for _, name := range []string{"cache", "db", "new", "old"} {
			s := wish
			s.Name = name
			c.change(&s)
			checkSeaCode(t, what+" of "+name, fullBook(), wishOf(s), c.code)
		}
	}
	names, others := stewNames()
	for _, name := range names {
		wish.Name = name
		next := checkSeaCode(t, name, fullBook(), wishOf(wish), 0)
		if !slices.ContainsFunc(next.Services, func(s impl.StewService) bool { return s.Name == name && s.Version == 21 }) {
			t.Errorf("%q: %+v", name, next)
		}
	}
	for _, name := range append(others, "DB", "db ", " db", "db\x00") {
		wish.Name = name
		checkSeaCode(t, fmt.Sprintf("%.30q", name), fullBook(), wishOf(wish), 2)
	}
}

// Copies of a service that is wished for anew are as they were, and its numbers go on; what is Gone may be wanted again.
func TestStewWishWithCopies(t *testing.T) {
	b := fullBook()
	for _, s := range b.Services {
		for _, gone := range []bool{false, true} {
			next := checkSeaCode(t, s.Name, b, wishOf(impl.StewService{Name: s.Name, Gone: gone, Image: 77, Want: 1, Down: 1}), 0)
			at := slices.IndexFunc(b.Services, func(other impl.StewService) bool { return other.Name == s.Name })
			if !slices.Equal(next.Copies, b.Copies) || next.Services[at].Next != s.Next || next.Services[at].Gone != gone {
				t.Errorf("%q: %+v", s.Name, next)
			}
			n := impl.StewCountOf(next, s.Name)
			if was := impl.StewCountOf(b, s.Name); n.Live != was.Live || n.Ending != was.Ending || n.Old != n.Live {
				t.Errorf("%q: %+v, not %+v", s.Name, n, was)
			}
		}
	}
	// A service that is dropped and wished for again is new.
	b = checkCode(t, "drop", actBook(), dropAct(), 0)
	b = checkSeaCode(t, "again", b, wishOf(impl.StewService{Name: "left", Image: 2, Over: 1, Next: 4}), 0)
	if s := b.Services[3]; s.Name != "left" || s.Next != 1 || s.Version != 52 {
		t.Errorf("%+v", s)
	}
}

func TestStewFails(t *testing.T) {
	for state, code := range map[int]int{impl.StewWaiting: 3, impl.StewStarting: 0, impl.StewReady: 0, impl.StewFailed: 3} {
		for _, ending := range []bool{false, true} {
			for _, gone := range []bool{false, true} {
				for at := range 3 {
					b := seaBook("x y-", "brx bry brx crx")
					c := &b.Copies[at]
					b.Services[0].Gone = gone
					c.State, c.Ending = state, ending
					if state == impl.StewWaiting {
						c.Berth = ""
					}
					next := checkSeaCode(t, fmt.Sprintf("state %d, ending %v", state, ending), b, impl.StewEvent{Kind: impl.StewFails, Name: "b", Number: at + 1}, code)
					want := cloneBook(b)
					if code == 0 {
						want.Now, want.Copies[at].State, want.Copies[at].Version = 901, impl.StewFailed, 901
					}
					if !sameBook(next, want) {
						t.Errorf("state %d, ending %v: %+v", state, ending, next)
					}
				}
			}
		}
	}
	b := seaBook("b x", "brx brx cwe crx")
	b.Services[0].Next = 100
	for _, c := range []struct {
		name   string
		number int
		code   int
	}{
		{"b", 1, 0}, {"b", 2, 0}, {"c", 2, 0}, {"c", 1, 3}, {"b", 3, 3}, {"b", 99, 3}, {"b", 100, 3}, {"b", 0, 3}, {"b", -1, 3}, {"b", math.MinInt, 3}, {"b", math.MaxInt, 3}, {"b", 1 << 32, 3}, {"b", 1<<32 + 1, 3},
		{"", 1, 3}, {"a", 1, 3}, {"x", 1, 3}, {"B", 1, 3}, {"b ", 1, 3}, {"bb", 1, 3}, {"d", 2, 3}, {strings.Repeat("b", 21), 1, 3},
	} {
		checkSeaCode(t, fmt.Sprintf("%q %d", c.name, c.number), b, impl.StewEvent{Kind: impl.StewFails, Name: c.name, Number: c.number}, c.code)
	}
	once := checkSeaCode(t, "once", b, impl.StewEvent{Kind: impl.StewFails, Name: "b", Number: 1}, 0)
	checkSeaCode(t, "twice", once, impl.StewEvent{Kind: impl.StewFails, Name: "b", Number: 1}, 3)
	// The service is the Name: that of the wish is not asked.
	checkSeaCode(t, "another part", b, impl.StewEvent{Kind: impl.StewFails, Service: impl.StewService{Name: "b"}, Number: 1}, 3)
}

func TestStewSink(t *testing.T) {
	for _, c := range []struct{ what, berths, copies, name, left, copiesLeft string }{
		{"no copies", "x y z", "arx arz", "y", "x z", "a1rx a2rz"},
		{"one", "x y z", "arx ary arz", "y", "x z", "a1rx a3rz"},
		{"many", "x y z", "ary arx ary asy afy arz", "y", "x z", "a2rx a6rz"},
		{"of several services", "x y", "arx ary bry brx cry", "y", "x", "a1rx b2rx"},
		{"Ending ones, too", "x y", "arye arxe asye ary", "y", "x", "a2rxe"},
		{"all are Ending", "x y", "arye asye afye", "y", "x", ""},
		{"what waits stays", "x y", "aw awe ary", "y", "x", "a1w a2we"},
		{"the first", "x y z", "arx ary arz", "x", "y z", "a2ry a3rz"},
		{"the last", "x y z", "arx ary arz", "z", "x y", "a1rx a2ry"},
		{"the only one", "x", "arx asx aw", "x", "", "a3w"},
		{"the only one, with none", "x", "aw", "x", "", "a1w"},
		{"the only one, without any service", "x", "", "x", "", ""},
		{"one that is to be drained", "x y-", "arx ary", "y", "x", "a1rx"},
		{"beside one that is to be drained", "x y-", "arx ary", "x", "y-", "a2ry"},
	} {
		b := seaBook(c.berths, c.copies)
		next := checkSeaCode(t, c.what, b, impl.StewEvent{Kind: impl.StewSink, Name: c.name}, 0)
		want := seaBook(c.left, "").Berths
		if got := seaText(next); got != c.copiesLeft || !slices.Equal(next.Berths, want) || !slices.Equal(next.Services, b.Services) || next.Now != 901 {
			t.Errorf("%s: %q, %+v", c.what, got, next)
		}
		checkSeaCode(t, c.what+", again", next, impl.StewEvent{Kind: impl.StewSink, Name: c.name}, 3)
	}
	b := seaBook("x y", "aw arx")
	for _, name := range []string{"", "a", "z", "X", "x ", "xx", " x", "x\x00", strings.Repeat("x", 5000)} {
		checkSeaCode(t, fmt.Sprintf("%.30q", name), b, impl.StewEvent{Kind: impl.StewSink, Name: name}, 3)
	}
	checkSeaCode(t, "no berth at all", impl.StewBook{}, impl.StewEvent{Kind: impl.StewSink, Name: "x"}, 3)
	// A berth that sinks and is raised again is empty.
	b = checkSeaCode(t, "sunk", b, impl.StewEvent{Kind: impl.StewSink, Name: "x"}, 0)
	b = checkSeaCode(t, "raised", b, impl.StewEvent{Kind: impl.StewRaise, Name: "x"}, 0)
	if got := seaText(b); got != "a1w" || len(b.Berths) != 2 {
		t.Errorf("%q, %+v", got, b)
	}
}

func TestStewRaise(t *testing.T) {
	names := []string{"-", "0", "a", "a-", "a0", "aa", "b"}
	for at, name := range names {
		for size := range 6 {
			for from := range len(names) - size {
				others := slices.DeleteFunc(slices.Clone(names[from:from+size+1]), func(other string) bool { return other == name })
				if len(others) > 5 {
					continue
				}
				for _, flag := range []bool{false, true} {
					b := impl.StewBook{Now: 7, Services: servicesCalled(name)}
					for i, other := range others {
						b.Berths = append(b.Berths, impl.StewBerth{Name: other, Drain: i%2 == at%2})
					}
					next := checkSeaCode(t, "a new one", b, impl.StewEvent{Kind: impl.StewRaise, Name: name, Flag: flag}, 0)
					if len(next.Berths) != len(others)+1 || !slices.Contains(next.Berths, impl.StewBerth{Name: name, Drain: flag}) {
						t.Errorf("%q beside %q: %+v", name, others, next.Berths)
					}
				}
			}
		}
	}
	// One that is there, as it was and changed: nothing else is touched, and it is one change of the book.
	for i, name := range []string{"a", "b", "c"} {
		for _, was := range []bool{false, true} {
			for _, flag := range []bool{false, true} {
				b := fullBook()
				b.Berths[i].Drain = was
				next := checkSeaCode(t, "one that is there", b, impl.StewEvent{Kind: impl.StewRaise, Name: name, Flag: flag}, 0)
				want := cloneBook(b)
				want.Now, want.Berths[i].Drain = 21, flag
				if !sameBook(next, want) {
					t.Errorf("%q, %v and %v: %+v", name, was, flag, next)
				}
			}
		}
	}
	good, others := stewNames()
	for _, name := range good {
		checkSeaCode(t, name, impl.StewBook{}, impl.StewEvent{Kind: impl.StewRaise, Name: name}, 0)
	}
	for _, name := range others {
		for _, flag := range []bool{false, true} {
			checkSeaCode(t, fmt.Sprintf("%.30q", name), fullBook(), impl.StewEvent{Kind: impl.StewRaise, Name: name, Flag: flag}, 2)
		}
	}
}

func TestStewRaiseMaxBerths(t *testing.T) {
	five := seaBook("b c d e f", "arb brf")
	for _, name := range []string{"a", "bb", "cc", "z"} {
		six := checkSeaCode(t, "the sixth", five, impl.StewEvent{Kind: impl.StewRaise, Name: name}, 0)
		checkSeaCode(t, "the seventh", six, impl.StewEvent{Kind: impl.StewRaise, Name: "g"}, 2)
		checkSeaCode(t, "the sixth again", six, impl.StewEvent{Kind: impl.StewRaise, Name: name, Flag: true}, 0)
	}
	six := seaBook("b c d e f g", "arb brf")
	for _, name := range []string{"a", "bb", "cc", "z", "", "A"} {
		checkSeaCode(t, "the seventh", six, impl.StewEvent{Kind: impl.StewRaise, Name: name}, 2)
	}
	for _, h := range six.Berths {
		checkSeaCode(t, "one of six", six, impl.StewEvent{Kind: impl.StewRaise, Name: h.Name, Flag: true}, 0)
	}
}

func TestStewLoad(t *testing.T) {
	for _, n := range around(0, 1000000) {
		for _, gone := range []bool{false, true} {
			b := fullBook()
			b.Services[1].Gone = gone
			code := 2
			if n >= 0 && n <= 1000000 {
				code = 0
			}
			next := checkSeaCode(t, fmt.Sprint("load ", n), b, impl.StewEvent{Kind: impl.StewLoad, Name: "db", Number: n}, code)
			want := cloneBook(b)
			if code == 0 {
				want.Now, want.Services[1].Load, want.Services[1].Version = 21, n, 21
			}
			if !sameBook(next, want) {
				t.Errorf("load %d: %+v", n, next)
			}
			// Without a Per there is none that follows it, whatever the load is.
			for _, name := range []string{"cache", "old", "web", "none", "", "a", "DB", "db "} {
				checkSeaCode(t, fmt.Sprintf("load %d of %q", n, name), b, impl.StewEvent{Kind: impl.StewLoad, Name: name, Number: n}, 3)
			}
		}
	}
	// Of each service that follows one, and of each Per; Cool and Want are the scaler's to change.
	for _, per := range []int{1, 2, 999999, 1000000} {
		for at := range 4 {
			b := fullBook()
			b.Services[at].Per, b.Services[at].Most, b.Services[at].Cool = per, 5, 2
			next := checkSeaCode(t, "load", b, impl.StewEvent{Kind: impl.StewLoad, Name: b.Services[at].Name, Number: 1000000}, 0)
			want := b.Services[at]
			want.Version, want.Load = 21, 1000000
			if next.Services[at] != want {
				t.Errorf("%+v, not %+v", next.Services[at], want)
			}
		}
	}
	// The load that it has already is a change like another.
	next := checkSeaCode(t, "the same", fullBook(), impl.StewEvent{Kind: impl.StewLoad, Name: "db", Number: 11}, 0)
	if s := next.Services[1]; s.Load != 11 || s.Version != 21 || next.Now != 21 {
		t.Errorf("%+v", s)
	}
}

// What an event changes has the version of the change, and nothing else has.
func TestStewSeaVersions(t *testing.T) {
	for kind, want := range map[int]string{
		impl.StewTick: "db 2, db 5", impl.StewWish: "new", impl.StewFails: "db 1", impl.StewSink: "", impl.StewRaise: "", impl.StewLoad: "db",
	} {
		next := checkSeaCode(t, "versions", fullBook(), seaEvents()[kind], 0)
		var got []string
		for _, s := range next.Services {
			if s.Version == 21 {
				got = append(got, s.Name)
			}
		}
		for _, c := range next.Copies {
			if c.Version == 21 {
				got = append(got, fmt.Sprint(c.Service, " ", c.Number))
			}
		}
		if strings.Join(got, ", ") != want {
			t.Errorf("kind %d: %q, not %q", kind, got, want)
		}
	}
}

// The greatest and the least int as every number, of the event and of the book.
func TestStewSeaFarthestNumbers(t *testing.T) {
	for _, n := range []int{math.MinInt, math.MinInt + 1, -1, 0, 1000001, math.MaxInt - 1, math.MaxInt} {
		for kind, base := range seaEvents() {
			all := partsOf(reflect.ValueOf(&base).Elem(), reflect.Int)
			if len(all) != 2+11 {
				t.Fatalf("an event has %d numbers", len(all))
			}
			for i := range all {
				e := seaEvents()[kind]
				partsOf(reflect.ValueOf(&e).Elem(), reflect.Int)[i].SetInt(int64(n))
				checkSea(t, fmt.Sprintf("number %d is %d", i, n), fullBook(), e)
			}
			for _, number := range all {
				number.SetInt(int64(n))
			}
			checkSeaCode(t, fmt.Sprint("all are ", n), fullBook(), base, 4)
			base.Kind = kind
			checkSea(t, fmt.Sprint("all but the kind are ", n), fullBook(), base)
			b := fullBook()
			for i := range numbersOf(&b) {
				b := fullBook()
				numbersOf(&b)[i].SetInt(int64(n))
				checkSea(t, fmt.Sprintf("the book's number %d is %d", i, n), b, seaEvents()[kind])
			}
			for _, number := range numbersOf(&b) {
				number.SetInt(int64(n))
			}
			checkSeaCode(t, fmt.Sprint("all of the book are ", n), b, seaEvents()[kind], 1)
		}
	}
}

func TestStewSeaGreat(t *testing.T) {
	b := greatBook(8, 200, 6)
	b.Now = 999999
	for i := range b.Services {
		b.Services[i].Version = 999999
	}
	for i := range b.Copies {
		b.Copies[i].Version = 999999
	}
	last, berth := b.Services[7], b.Berths[5].Name
	last.Load = 0
	for _, e := range []impl.StewEvent{
		{Kind: impl.StewTick}, wishOf(last), {Kind: impl.StewSink, Name: berth}, {Kind: impl.StewRaise, Name: berth}, {Kind: impl.StewLoad, Name: last.Name},
	} {
		next := checkSeaCode(t, "all at their greatest", b, e, 0)
		checkSeaCode(t, "and no more", next, e, 7)
	}
	checkSeaCode(t, "a failed one", b, impl.StewEvent{Kind: impl.StewFails, Name: last.Name, Number: 999999}, 3)
	inGoodTime(t, "what is far too long", func() {
		long := strings.Repeat("a", 10000000)
		for kind, want := range map[int]int{impl.StewTick: 0, impl.StewWish: 2, impl.StewFails: 3, impl.StewSink: 3, impl.StewRaise: 2, impl.StewLoad: 3} {
			e := impl.StewEvent{Kind: kind, Name: long, Service: impl.StewService{Name: long, Image: 1, Over: 1}}
			if _, code := impl.StewSea(fullBook(), e); code != want {
				t.Errorf("kind %d: code %d", kind, code)
			}
			b := fullBook()
			b.Copies = slices.Repeat(b.Copies, 20000)
			if next, code := impl.StewSea(b, e); code != 1 || len(next.Copies) > 0 {
				t.Errorf("kind %d: code %d", kind, code)
			}
		}
	})
}

// seaEventWithOwnTexts has texts of its own, so that it is seen if an answer shares them.
func seaEventWithOwnTexts(e impl.StewEvent) impl.StewEvent {
	e.Name, e.Service.Name = strings.Clone(e.Name), strings.Clone(e.Service.Name)
	return e
}

// The arguments are as they were, also behind their ends, and what comes back shares no memory with them, with each code.
func TestStewSeaMemory(t *testing.T) {
	t.Parallel()
	r := rand.New(rand.NewSource(234))
	met := map[string]int{}
	check := func(b impl.StewBook, e impl.StewEvent) {
		t.Helper()
		e = seaEventWithOwnTexts(e)
		checkBookUnchanged(t, b, func(b impl.StewBook) {
			before := e
			next, code := impl.StewSea(b, e)
			met[fmt.Sprint("code ", code)]++
			if code == 0 {
				met[fmt.Sprint("kind ", e.Kind)]++
			}
			checkOwnMemory(t, []any{b, e}, []any{next})
			checkOwnTexts(t, []any{b, e}, []any{next})
			if e != before {
				t.Errorf("the event was %+v, and is %+v", before, e)
			}
			if alone, aloneCode := impl.StewSea(cloneBook(b), e); aloneCode != code || !sameBook(alone, next) {
				t.Errorf("what stands behind is asked: %+v of %+v", e, b)
			}
		})
	}
	for _, b := range []impl.StewBook{{}, fullBook(), actBook(), greatBook(8, 200, 6), greatBook(8, 201, 6)} {
		for _, e := range seaEvents() {
			check(b, e)
		}
		for _, events := range refusedEvents() {
			for _, e := range events {
				check(b, e)
			}
		}
	}
	for i := range 1500 {
		b := pickOf(r, readyBook, stewardsBook, fullOf)(r)
		e := randomSeaEvent(r, b)
		if i%3 == 0 {
			breakSeaEvent(r, &e)
		}
		if i%10 == 0 {
			breakBook(r, &b)
		}
		check(b, e)
		if t.Failed() {
			return
		}
	}
	for _, what := range []string{"code 0", "code 1", "code 2", "code 3", "code 4", "code 7", "kind 1", "kind 2", "kind 3", "kind 4", "kind 5", "kind 6"} {
		if met[what] < 20 {
			t.Errorf("%q: the events tell too little: %v", what, met)
		}
	}
}

// What is written into an answer is not seen in another answer to the same, nor in the arguments.
func TestStewSeaAnswersAreTheirOwn(t *testing.T) {
	events := refusedEvents()
	for _, e := range seaEvents() {
		events[0] = append(events[0], e)
	}
	for want, list := range events {
		for _, e := range list {
			b := fullBook()
			first, code := impl.StewSea(b, e)
			second, again := impl.StewSea(b, e)
			before := plainBook(first)
			clear(second.Services[:cap(second.Services)])
			clear(second.Copies[:cap(second.Copies)])
			clear(second.Berths[:cap(second.Berths)])
			if code != want || code != again || !sameBook(first, before) || !sameBook(b, fullBook()) {
				t.Errorf("%+v: the answer or the argument has changed", e)
			}
		}
	}
}

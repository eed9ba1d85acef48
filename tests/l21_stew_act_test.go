package tests

import (
	"fmt"
	"math"
	"reflect"
	"slices"
	"testing"

	"loop.example/wharffleet/impl"
)

// actBook has services with a load to follow and without, one that is Gone, and one that is so and has no copies left; copies in each State, Ending and not. Of db two must be ready, three are, and six are Live.
func actBook() impl.StewBook {
	return impl.StewBook{
		Now: 50,
		Services: []impl.StewService{
			{Name: "api", Version: 10, Image: 4, Want: 2, Down: 1, Over: 1, Next: 6},
			{Name: "db", Version: 20, Image: 7, Want: 3, Down: 1, Over: 2, Next: 10, Per: 4, Least: 1, Most: 5, Load: 11, Cool: 2},
			{Name: "gone", Version: 30, Gone: true, Image: 2, Want: 2, Over: 1, Next: 4},
			{Name: "left", Version: 40, Gone: true, Image: 2, Want: 2, Over: 1, Next: 4, Per: 3, Least: 1, Most: 4, Load: 1},
			{Name: "web", Version: 45, Image: 1, Want: 10, Down: 2, Over: 10, Next: 1, Per: 9, Most: 10},
		},
		Copies: []impl.StewCopy{
			{Service: "api", Number: 2, Version: 11, Image: 4, State: impl.StewReady, Berth: "a"},
			{Service: "api", Number: 5, Version: 12, Image: 3, State: impl.StewReady, Berth: "b"},
			{Service: "db", Number: 1, Version: 21, Image: 7, State: impl.StewReady, Berth: "a"},
			{Service: "db", Number: 2, Version: 22, Image: 7, State: impl.StewReady, Berth: "b"},
			{Service: "db", Number: 3, Version: 23, Image: 6, State: impl.StewReady, Berth: "a"},
			{Service: "db", Number: 4, Version: 24, Image: 7, State: impl.StewStarting, Ending: true, Berth: "a"},
			{Service: "db", Number: 6, Version: 26, Image: 7, State: impl.StewWaiting},
			{Service: "db", Number: 7, Version: 27, Image: 7, State: impl.StewFailed, Berth: "b"},
			{Service: "db", Number: 9, Version: 29, Image: 7, State: impl.StewStarting, Berth: "b"},
			{Service: "gone", Number: 1, Version: 31, Image: 2, State: impl.StewReady, Berth: "a"},
			{Service: "gone", Number: 2, Version: 32, Image: 2, State: impl.StewFailed, Berth: "a"},
			{Service: "gone", Number: 3, Version: 33, Image: 2, State: impl.StewReady, Ending: true, Berth: "b"},
		},
		Berths: []impl.StewBerth{{Name: "a"}, {Name: "b", Drain: true}},
	}
}

// wholeAct has all in it that can be together, and is done in actBook: one more that is ready could not end, and one more could not be created.
func wholeAct() impl.StewAct {
	return impl.StewAct{Service: "db", Seen: 20, Create: 2, Scale: true, Want: 4, Cool: 1, Ends: []impl.StewEnd{{Number: 3, Seen: 23}, {Number: 7, Seen: 27}}}
}

// dropAct is done in actBook, too.
func dropAct() impl.StewAct { return impl.StewAct{Service: "left", Seen: 40, Drop: true} }

// endsOf are copies of actBook's db, as they are there.
func endsOf(numbers ...int) []impl.StewEnd {
	var ends []impl.StewEnd
	for _, n := range numbers {
		ends = append(ends, impl.StewEnd{Number: n, Seen: 20 + n})
	}
	return ends
}

func TestStewApplyWhole(t *testing.T) {
	next, code := checkApply(t, "whole", actBook(), wholeAct())
	want := actBook()
	want.Now = 51
	db := &want.Services[1]
	db.Version, db.Want, db.Cool, db.Next = 51, 4, 1, 12
	for _, at := range []int{4, 7} {
		want.Copies[at].Ending, want.Copies[at].Version = true, 51
	}
	want.Copies = slices.Insert(want.Copies, 9,
		impl.StewCopy{Service: "db", Number: 10, Version: 51, Image: 7, State: impl.StewWaiting},
		impl.StewCopy{Service: "db", Number: 11, Version: 51, Image: 7, State: impl.StewWaiting})
	if code != 0 || !reflect.DeepEqual(next, want) {
		t.Errorf("%d, %+v\nnot %+v", code, next, want)
	}
}

func TestStewApplyDrop(t *testing.T) {
	next, code := checkApply(t, "drop", actBook(), dropAct())
	want := actBook()
	want.Now, want.Services = 51, slices.Delete(want.Services, 3, 4)
	if code != 0 || !sameBook(next, want) {
		t.Errorf("%d, %+v\nnot %+v", code, next, want)
	}
	// The first, the last and the only one.
	for _, names := range [][]string{{"a", "b", "c"}, {"a"}, {"a", "b"}} {
		for at, name := range names {
			b := impl.StewBook{Now: 7, Services: servicesCalled(names...), Berths: []impl.StewBerth{{Name: name}}}
			b.Services[at].Gone = true
			next, code := checkApply(t, "drop", b, impl.StewAct{Service: name, Seen: 1, Drop: true})
			if code != 0 || len(next.Services) != len(names)-1 || next.Now != 8 || len(next.Berths) != 1 {
				t.Errorf("%q of %q: %d, %+v", name, names, code, next)
			}
		}
	}
	// The copies of others are not its own, also where its name is the beginning of theirs, or a berth's.
	b := impl.StewBook{Now: 7, Services: servicesCalled("a", "a-", "aa", "b"), Berths: []impl.StewBerth{{Name: "a-"}}}
	b.Services[1].Gone = true
	for _, name := range []string{"a", "aa", "b"} {
		b.Copies = append(b.Copies, impl.StewCopy{Service: name, Number: 1, Version: 2, Image: 1, State: impl.StewReady, Berth: "a-"})
	}
	if next, code := checkApply(t, "drop", b, impl.StewAct{Service: "a-", Seen: 1, Drop: true}); code != 0 || len(next.Copies) != 3 || len(next.Services) != 3 {
		t.Errorf("%d, %+v", code, next)
	}
}

// Create, Ends and Scale alone and together, of services of each kind.
func TestStewApplyOrdinary(t *testing.T) {
	db := func(a impl.StewAct) impl.StewAct {
		a.Service, a.Seen = "db", 20
		return a
	}
	other := func(service string, seen int, a impl.StewAct) impl.StewAct {
		a.Service, a.Seen = service, seen
		return a
	}
	for i, c := range []struct {
		code int
		a    impl.StewAct
	}{
		{0, db(impl.StewAct{})},
		{0, db(impl.StewAct{Ends: []impl.StewEnd{}})},
		{0, db(impl.StewAct{Ends: endsOf(1)})}, {0, db(impl.StewAct{Ends: endsOf(2)})}, {0, db(impl.StewAct{Ends: endsOf(3)})},
		{0, db(impl.StewAct{Ends: endsOf(6)})}, {0, db(impl.StewAct{Ends: endsOf(7)})}, {0, db(impl.StewAct{Ends: endsOf(9)})},
		{0, db(impl.StewAct{Ends: endsOf(6, 7, 9)})}, {0, db(impl.StewAct{Ends: endsOf(1, 6, 7, 9)})}, {0, db(impl.StewAct{Ends: endsOf(3, 6, 7, 9)})},
		{5, db(impl.StewAct{Ends: endsOf(4)})}, {5, db(impl.StewAct{Ends: endsOf(1, 2)})}, {5, db(impl.StewAct{Ends: endsOf(1, 2, 3, 6, 7, 9)})},
		{6, db(impl.StewAct{Create: 1})}, // six are Live, five may be
		{6, db(impl.StewAct{Create: 1, Ends: endsOf(7)})},
		{0, db(impl.StewAct{Create: 1, Ends: endsOf(7, 9)})}, {6, db(impl.StewAct{Create: 2, Ends: endsOf(7, 9)})},
		{0, db(impl.StewAct{Create: 3, Ends: endsOf(3, 6, 7, 9)})}, {6, db(impl.StewAct{Create: 4, Ends: endsOf(3, 6, 7, 9)})},
		{0, db(impl.StewAct{Scale: true, Want: 5})}, {0, db(impl.StewAct{Scale: true, Want: 3})}, {0, db(impl.StewAct{Scale: true, Want: 1, Cool: 3})},
		{0, db(impl.StewAct{Scale: true, Want: 5, Create: 1})}, {6, db(impl.StewAct{Scale: true, Want: 5, Create: 2})}, {6, db(impl.StewAct{Scale: true, Want: 4, Create: 1})},
		{0, db(impl.StewAct{Scale: true, Want: 1, Ends: endsOf(1)})}, {0, db(impl.StewAct{Scale: true, Want: 1, Ends: endsOf(6, 7, 9)})},
		{0, db(impl.StewAct{Scale: true, Want: 5, Create: 2, Ends: endsOf(9)})}, {6, db(impl.StewAct{Scale: true, Want: 5, Create: 3, Ends: endsOf(9)})},
		{0, other("api", 10, impl.StewAct{Create: 1})}, {6, other("api", 10, impl.StewAct{Create: 2})}, {6, other("api", 10, impl.StewAct{Scale: true, Want: 2})},
		{0, other("api", 10, impl.StewAct{Create: 2, Ends: []impl.StewEnd{{Number: 5, Seen: 12}}})},
		{5, other("api", 10, impl.StewAct{Ends: []impl.StewEnd{{Number: 2, Seen: 11}, {Number: 5, Seen: 12}}})},
		{0, other("gone", 30, impl.StewAct{})}, {6, other("gone", 30, impl.StewAct{Create: 1})}, {6, other("gone", 30, impl.StewAct{Drop: true})},
		{0, other("gone", 30, impl.StewAct{Ends: []impl.StewEnd{{Number: 1, Seen: 31}}})},
		{0, other("gone", 30, impl.StewAct{Ends: []impl.StewEnd{{Number: 1, Seen: 31}, {Number: 2, Seen: 32}}})},
		{5, other("gone", 30, impl.StewAct{Ends: []impl.StewEnd{{Number: 1, Seen: 31}, {Number: 2, Seen: 32}, {Number: 3, Seen: 33}}})},
		{6, other("gone", 30, impl.StewAct{Create: 1, Ends: []impl.StewEnd{{Number: 1, Seen: 31}, {Number: 2, Seen: 32}}})},
		{0, other("left", 40, impl.StewAct{})}, {0, other("left", 40, impl.StewAct{Scale: true, Want: 4})}, {6, other("left", 40, impl.StewAct{Create: 1})},
		{0, other("web", 45, impl.StewAct{Create: 20})}, {0, other("web", 45, impl.StewAct{Scale: true, Create: 10})}, {6, other("web", 45, impl.StewAct{Scale: true, Create: 11})},
		{6, other("db", 20, impl.StewAct{Drop: true})}, {6, other("api", 10, impl.StewAct{Drop: true})}, {6, other("web", 45, impl.StewAct{Drop: true})},
		{3, other("none", 10, impl.StewAct{})}, {3, other("", 0, impl.StewAct{})}, {3, other("a", 1, impl.StewAct{Drop: true})}, {3, other("DB", 20, impl.StewAct{})}, {3, other("db ", 20, impl.StewAct{Create: 1})},
		{3, impl.StewAct{}},
	} {
		if _, code := checkApply(t, fmt.Sprint("case ", i), actBook(), c.a); code != c.code {
			t.Errorf("case %d: code %d, not %d: %+v", i, code, c.code, c.a)
		}
	}
	if _, code := checkApply(t, "nothing of nothing", impl.StewBook{}, impl.StewAct{}); code != 3 {
		t.Errorf("nothing of nothing: code %d", code)
	}
}

// What is touched has the version of the change, the service always; an act that asks for nothing touches it alone.
func TestStewApplyVersions(t *testing.T) {
	next, code := checkApply(t, "nothing", actBook(), impl.StewAct{Service: "api", Seen: 10})
	want := actBook()
	want.Now, want.Services[0].Version = 51, 51
	if code != 0 || !reflect.DeepEqual(next, want) {
		t.Errorf("%d, %+v", code, next)
	}
	// Scale to what is there already is a change like another.
	next, code = checkApply(t, "scale", actBook(), impl.StewAct{Service: "db", Seen: 20, Scale: true, Want: 3, Cool: 2})
	want = actBook()
	want.Now, want.Services[1].Version = 51, 51
	if code != 0 || !reflect.DeepEqual(next, want) {
		t.Errorf("%d, %+v", code, next)
	}
	// A version is that of the book, also where the service has one that is far behind, and the act ends what is new.
	b := actBook()
	b.Now, b.Copies[0].Version = 999, 999
	next, code = checkApply(t, "far behind", b, impl.StewAct{Service: "api", Seen: 10, Create: 1, Ends: []impl.StewEnd{{Number: 2, Seen: 999}}})
	if code != 0 || next.Now != 1000 || next.Services[0].Version != 1000 || next.Copies[0].Version != 1000 || next.Copies[1].Version != 12 || next.Copies[2].Version != 1000 {
		t.Errorf("%d, %+v", code, next)
	}
}

// New copies come behind those of their service, and ahead of those of the next one; their image is the service's, whatever that of the others is.
func TestStewApplyNewCopies(t *testing.T) {
	names := []string{"a", "a-", "a0", "aa", "b"}
	for at, name := range names {
		b := impl.StewBook{Now: 7, Services: servicesCalled(names...), Berths: []impl.StewBerth{{Name: "x"}}}
		b.Services[at].Image, b.Services[at].Over = 9, 10
		for i, other := range names {
			b.Services[i].Next = 20 + i
			for _, number := range []int{3, 19} {
				b.Copies = append(b.Copies, impl.StewCopy{Service: other, Number: number, Version: 2, Image: 8, State: impl.StewReady, Berth: "x"})
			}
		}
		next, code := checkApply(t, "create", b, impl.StewAct{Service: name, Seen: 1, Create: 3})
		var want []impl.StewCopy
		for i := range 3 {
			want = append(want, impl.StewCopy{Service: name, Number: 20 + at + i, Version: 8, Image: 9, State: impl.StewWaiting})
		}
		if code != 0 || !slices.Equal(next.Copies, slices.Insert(b.Copies, 2*at+2, want...)) || next.Services[at].Next != 23+at {
			t.Errorf("%q: %d, %+v", name, code, next)
		}
		b.Copies = nil
		next, code = checkApply(t, "create the first", b, impl.StewAct{Service: name, Seen: 1, Create: 3})
		if code != 0 || !slices.Equal(next.Copies, want) {
			t.Errorf("%q: %d, %+v", name, code, next)
		}
	}
}

// Ends are done one after the other: what is ready and ends is missed by those behind it.
func TestStewApplyEndsInOrder(t *testing.T) {
	book := func(want, down int, states ...int) impl.StewBook {
		b := impl.StewBook{Now: 9, Services: servicesCalled("a"), Berths: []impl.StewBerth{{Name: "x"}}}
		b.Services[0].Want, b.Services[0].Down, b.Services[0].Over = want, down, 1
		b.Services[0].Next, b.Services[0].Per, b.Services[0].Most = 100, 1, 10
		for i, state := range states {
			c := impl.StewCopy{Service: "a", Number: i + 1, Version: 2, Image: 1, State: state, Berth: "x"}
			if state == impl.StewWaiting {
				c.Berth = ""
			}
			b.Copies = append(b.Copies, c)
		}
		return b
	}
	const waits, starts, ready, failed = impl.StewWaiting, impl.StewStarting, impl.StewReady, impl.StewFailed
	for i, c := range []struct {
		want, down int
		states     []int
		ends       []int
		code       int
	}{
		// Two of which each alone may end, but not both.
		{3, 1, []int{ready, ready, ready}, []int{1}, 0}, {3, 1, []int{ready, ready, ready}, []int{2}, 0}, {3, 1, []int{ready, ready, ready}, []int{3}, 0},
		{3, 1, []int{ready, ready, ready}, []int{1, 2}, 5}, {3, 1, []int{ready, ready, ready}, []int{1, 3}, 5}, {3, 1, []int{ready, ready, ready}, []int{2, 3}, 5},
		{3, 2, []int{ready, ready, ready}, []int{1, 2}, 0}, {3, 2, []int{ready, ready, ready}, []int{1, 2, 3}, 5}, {3, 3, []int{ready, ready, ready}, []int{1, 2, 3}, 0},
		{3, 10, []int{ready, ready, ready}, []int{1, 2, 3}, 0}, {0, 0, []int{ready, ready, ready}, []int{1, 2, 3}, 0},
		{3, 0, []int{ready, ready, ready}, []int{1}, 5}, {3, 0, []int{ready, ready, ready, ready}, []int{4}, 0}, {3, 0, []int{ready, ready, ready, ready}, []int{1, 4}, 5},
		// One that is not ready, between two that are, ahead of them and behind them.
		{3, 1, []int{ready, failed, ready, ready}, []int{1, 2}, 0}, {3, 1, []int{ready, failed, ready, ready}, []int{2, 3}, 0}, {3, 1, []int{ready, failed, ready, ready}, []int{1, 2, 3}, 5},
		{3, 2, []int{ready, failed, ready, ready}, []int{1, 2, 3}, 0}, {3, 1, []int{starts, ready, ready, ready}, []int{1, 2, 3}, 5}, {3, 1, []int{ready, ready, ready, waits}, []int{1, 2, 4}, 5},
		{3, 1, []int{ready, ready, ready, waits}, []int{1, 4}, 0},
		// What is not ready may end, however many are ready.
		{3, 0, []int{waits, starts, failed}, []int{1, 2, 3}, 0}, {10, 0, []int{waits, ready, failed}, []int{1, 3}, 0}, {10, 0, []int{waits, ready, failed}, []int{1, 2, 3}, 5},
		{10, 0, []int{waits, starts, failed, ready}, []int{1, 2, 3}, 0}, {10, 0, []int{waits, starts, failed, ready}, []int{1, 2, 3, 4}, 5},
	} {
		b := book(c.want, c.down, c.states...)
		a := impl.StewAct{Service: "a", Seen: 1}
		for _, n := range c.ends {
			a.Ends = append(a.Ends, impl.StewEnd{Number: n, Seen: 2})
		}
		what := fmt.Sprintf("case %d: %+v", i, c)
		if _, code := checkApply(t, what, b, a); code != c.code {
			t.Errorf("%s: code %d", what, code)
		}
		// By the Want that was: what Scale makes of it does not matter.
		for want := range 11 {
			scaled := a
			scaled.Scale, scaled.Want = true, want
			if _, code := checkApply(t, what, b, scaled); code != c.code {
				t.Errorf("%s, scaled to %d: code %d", what, want, code)
			}
		}
		// Nor what is created behind it.
		if len(c.states)-len(c.ends) <= c.want {
			created := a
			created.Create = c.want - (len(c.states) - len(c.ends)) + 1
			if _, code := checkApply(t, what, b, created); code != c.code {
				t.Errorf("%s, created %d: code %d", what, created.Create, code)
			}
		}
		// Of a service that is Gone all may end.
		b.Services[0].Gone = true
		if _, code := checkApply(t, what, b, a); code != 0 {
			t.Errorf("%s, gone: code %d", what, code)
		}
		// One that is Ending may not, whatever its service is.
		for _, n := range c.ends {
			b.Copies[n-1].Ending = true
			if _, code := checkApply(t, what, b, a); code != 5 {
				t.Errorf("%s, %d is Ending: code %d", what, n, code)
			}
			b.Copies[n-1].Ending = false
		}
	}
}

// Not at all: where the last of Ends may not end, the first has not ended either.
func TestStewApplyNotAtAll(t *testing.T) {
	for what, c := range map[string]struct {
		code   int
		change func(b *impl.StewBook, a *impl.StewAct)
	}{
		"the last end":      {5, func(b *impl.StewBook, a *impl.StewAct) { a.Ends = endsOf(1, 2) }},
		"scale":             {6, func(b *impl.StewBook, a *impl.StewAct) { b.Services[1].Most = 3 }},
		"create":            {6, func(b *impl.StewBook, a *impl.StewAct) { a.Create = 3 }},
		"create, no number": {7, func(b *impl.StewBook, a *impl.StewAct) { b.Services[1].Next = 999999 }},
		"no version":        {7, func(b *impl.StewBook, a *impl.StewAct) { b.Now = 1000000 }},
	} {
		b, a := actBook(), wholeAct()
		c.change(&b, &a)
		before := plainBook(b)
		next, code := checkApply(t, what, b, a)
		if code != c.code || !sameBook(next, before) || !sameBook(b, before) {
			t.Errorf("%s: %d, %+v", what, code, next)
		}
	}
	b := actBook()
	b.Now = 1000000
	if next, code := checkApply(t, "a drop without a version", b, dropAct()); code != 7 || !sameBook(next, b) {
		t.Errorf("%d, %+v", code, next)
	}
}

// actFault makes an act that is done one that is refused for this reason.
type actFault struct {
	reason string
	change func(b *impl.StewBook, a *impl.StewAct)
}

func (f actFault) code() int { return int(f.reason[0] - '0') }

func badBerth(b *impl.StewBook, _ *impl.StewAct) {
	b.Berths = append(b.Berths, impl.StewBerth{Name: "z_"})
}

func noVersion(b *impl.StewBook, _ *impl.StewAct) { b.Now = 1000000 }

// fillBook has so many copies, those that come to it of a service of their own.
func fillBook(copies int) func(b *impl.StewBook, a *impl.StewAct) {
	return func(b *impl.StewBook, _ *impl.StewAct) {
		b.Services = append(b.Services, impl.StewService{Name: "zzz", Version: 1, Image: 1, Over: 1, Next: 1000})
		for i := 1; len(b.Copies) < copies; i++ {
			b.Copies = append(b.Copies, impl.StewCopy{Service: "zzz", Number: i, Version: 1, Image: 1, State: impl.StewWaiting, Ending: i%2 == 0})
		}
	}
}

// wholeFaults are those of wholeAct in actBook, in the order of their codes; of one code each reason, and each in more than one way.
func wholeFaults() []actFault {
	db := func(change func(s *impl.StewService)) func(b *impl.StewBook, a *impl.StewAct) {
		return func(b *impl.StewBook, _ *impl.StewAct) { change(&b.Services[1]) }
	}
	act := func(change func(a *impl.StewAct)) func(b *impl.StewBook, a *impl.StewAct) {
		return func(_ *impl.StewBook, a *impl.StewAct) { change(a) }
	}
	end := func(number, seen int) func(b *impl.StewBook, a *impl.StewAct) {
		return act(func(a *impl.StewAct) {
			at := slices.IndexFunc(append(a.Ends, impl.StewEnd{Number: math.MaxInt}), func(e impl.StewEnd) bool { return e.Number >= number })
			a.Ends = slices.Insert(slices.Clone(a.Ends), at, impl.StewEnd{Number: number, Seen: seen})
		})
	}
	return []actFault{
		{"1 book", badBerth},
		{"2 create", act(func(a *impl.StewAct) { a.Create = -1 })},
		{"2 create", act(func(a *impl.StewAct) { a.Create = 21 })},
		{"2 create", act(func(a *impl.StewAct) { a.Create = math.MinInt })},
		{"2 create", act(func(a *impl.StewAct) { a.Create = math.MaxInt })},
		{"2 ends", act(func(a *impl.StewAct) {
			for i := 100; len(a.Ends) < 201; i++ {
				a.Ends = append(a.Ends, impl.StewEnd{Number: i, Seen: 1})
			}
		})},
		{"2 order", act(func(a *impl.StewAct) { a.Ends[0], a.Ends[1] = a.Ends[1], a.Ends[0] })},
		{"2 order", act(func(a *impl.StewAct) { a.Ends = append(a.Ends, a.Ends[len(a.Ends)-1]) })},
		{"2 order", act(func(a *impl.StewAct) { a.Ends = append(a.Ends, a.Ends[0]) })},
		{"2 want without scale", act(func(a *impl.StewAct) { a.Scale, a.Want, a.Cool, a.Create = false, 3, 0, min(a.Create, 1) })},
		{"2 cool without scale", act(func(a *impl.StewAct) { a.Scale, a.Want, a.Cool, a.Create = false, 0, 1, min(a.Create, 1) })},
		{"2 want", act(func(a *impl.StewAct) { a.Want = -1 })},
		{"2 want", act(func(a *impl.StewAct) { a.Want = 11 })},
		{"2 cool", act(func(a *impl.StewAct) { a.Cool = -1 })},
		{"2 cool", act(func(a *impl.StewAct) { a.Cool = 4 })},
		{"2 drop and scale", act(func(a *impl.StewAct) { a.Drop = true })},
		{"3 service", act(func(a *impl.StewAct) { a.Service = "none" })},
		{"3 service", act(func(a *impl.StewAct) { a.Service = "" })},
		{"3 end", end(8, 20)},
		{"3 end", end(math.MaxInt, 20)},
		{"3 end", end(0, 20)},
		{"3 end", end(math.MinInt, 0)},
		{"3 end", end(5, 12)}, // a number of another service alone
		{"4 service", act(func(a *impl.StewAct) { a.Seen = 19 })},
		{"4 service", act(func(a *impl.StewAct) { a.Seen = 21 })},
		{"4 end", act(func(a *impl.StewAct) { a.Ends[0].Seen-- })},
		{"4 end", act(func(a *impl.StewAct) { a.Ends[len(a.Ends)-1].Seen++ })},
		{"5 ending", end(4, 24)},
		{"5 ready", end(2, 22)},
		{"5 ready", end(1, 21)},
		{"5 ready", db(func(s *impl.StewService) { s.Want = 4 })},
		{"5 ready", db(func(s *impl.StewService) { s.Down = 0 })},
		{"6 create gone", db(func(s *impl.StewService) { s.Gone = true })},
		{"6 create many", act(func(a *impl.StewAct) { a.Create = 3 })},
		{"6 create many", act(func(a *impl.StewAct) { a.Create = 20 })},
		{"6 create many", act(func(a *impl.StewAct) { a.Want = 3 })},
		{"6 create many", db(func(s *impl.StewService) { s.Over = 1 })},
		{"6 scale per", db(func(s *impl.StewService) { s.Per, s.Least, s.Most, s.Load, s.Cool = 0, 0, 0, 0, 0 })},
		{"6 scale want", db(func(s *impl.StewService) { s.Least = 5 })},
		{"6 scale want", db(func(s *impl.StewService) { s.Most = 3 })},
		{"7 copies", fillBook(199)},
		{"7 copies", fillBook(200)},
		{"7 next", db(func(s *impl.StewService) { s.Next = 999999 })},
		{"7 next", db(func(s *impl.StewService) { s.Next = 1000000 })},
		{"7 now", noVersion},
	}
}

// dropFaults are those of dropAct.
func dropFaults() []actFault {
	left := func(change func(s *impl.StewService)) func(b *impl.StewBook, a *impl.StewAct) {
		return func(b *impl.StewBook, _ *impl.StewAct) { change(&b.Services[3]) }
	}
	act := func(change func(a *impl.StewAct)) func(b *impl.StewBook, a *impl.StewAct) {
		return func(_ *impl.StewBook, a *impl.StewAct) { change(a) }
	}
	with := func(ending bool) func(b *impl.StewBook, a *impl.StewAct) {
		return func(b *impl.StewBook, _ *impl.StewAct) {
			b.Copies = append(b.Copies[:12], impl.StewCopy{Service: "left", Number: 2, Version: 5, Image: 2, State: impl.StewFailed, Ending: ending, Berth: "a"})
		}
	}
	return []actFault{
		{"1 book", badBerth},
		{"2 drop and create", act(func(a *impl.StewAct) { a.Create = 1 })},
		{"2 drop and create", act(func(a *impl.StewAct) { a.Create = 20 })},
		{"2 drop and scale", act(func(a *impl.StewAct) { a.Scale = true })},
		{"2 drop and scale", act(func(a *impl.StewAct) { a.Scale, a.Want, a.Cool = true, 2, 1 })},
		{"2 drop and ends", act(func(a *impl.StewAct) { a.Ends = []impl.StewEnd{{Number: 2, Seen: 5}} })},
		{"2 drop and ends", func(b *impl.StewBook, a *impl.StewAct) { // one that is there
			with(false)(b, a)
			a.Ends = []impl.StewEnd{{Number: 2, Seen: 5}}
		}},
		{"2 want without scale", act(func(a *impl.StewAct) { a.Want = 2 })},
		{"2 cool without scale", act(func(a *impl.StewAct) { a.Cool = 1 })},
		{"3 service", act(func(a *impl.StewAct) { a.Service = "lef" })},
		{"4 service", act(func(a *impl.StewAct) { a.Seen = 39 })},
		{"4 service", act(func(a *impl.StewAct) { a.Seen = math.MaxInt })},
		{"6 drop gone", left(func(s *impl.StewService) { s.Gone = false })},
		{"6 drop copies", with(false)},
		{"6 drop copies", with(true)},
		{"7 now", noVersion},
	}
}

// withFaults is an act with some faults, the later ones put in first, so that they do not undo the earlier ones.
func withFaults(act func() impl.StewAct, faults ...actFault) (impl.StewBook, impl.StewAct) {
	b, a := actBook(), act()
	for _, f := range slices.Backward(faults) {
		f.change(&b, &a)
	}
	return b, a
}

// Each reason alone, each with each of a later code, and each with one of every later code at once.
func TestStewApplyCodesInOrder(t *testing.T) {
	bothMet := map[string]int{}
	for _, side := range []struct {
		act    func() impl.StewAct
		faults []actFault
	}{{wholeAct, wholeFaults()}, {dropAct, dropFaults()}} {
		check := func(what string, faults ...actFault) []string {
			t.Helper()
			b, a := withFaults(side.act, faults...)
			if _, code := checkApply(t, what, b, a); code != faults[0].code() {
				t.Errorf("%s: code %d: %q", what, code, modelActReasons(b, a))
			}
			return modelActReasons(b, a)
		}
		for i, first := range side.faults {
			if reasons := check(first.reason, first); !slices.Contains(reasons, first.reason) {
				t.Errorf("%q is refused for %q", first.reason, reasons)
			}
			later := map[int][]actFault{}
			for _, second := range side.faults[i+1:] {
				// A service that is Gone lets all end.
				if second.code() == first.code() || first.reason == "5 ready" && second.reason == "6 create gone" {
					continue
				}
				later[second.code()] = append(later[second.code()], second)
				reasons := check(first.reason+" and "+second.reason, first, second)
				if slices.Contains(reasons, first.reason) && slices.Contains(reasons, second.reason) {
					bothMet[first.reason[:1]+second.reason[:1]]++
				}
			}
			for turn := range 12 {
				all := []actFault{first}
				for code := first.code() + 1; code <= 7; code++ {
					if n := len(later[code]); n > 0 {
						all = append(all, later[code][turn%n])
					}
				}
				check(fmt.Sprintf("%s and all later ones, turn %d", first.reason, turn), all...)
			}
		}
	}
	for first := 2; first <= 7; first++ {
		for second := first + 1; second <= 7; second++ {
			if key := fmt.Sprintf("%d%d", first, second); bothMet[key] == 0 {
				t.Errorf("codes %s were never due at once: %v", key, bothMet)
			}
		}
	}
}

// Each reason is alone in what is refused for it, where it can be: nothing else is there that could be meant.
func TestStewApplyReasonsAlone(t *testing.T) {
	alone := map[string]bool{}
	for _, f := range wholeFaults() {
		b, a := withFaults(wholeAct, f)
		if reasons := modelActReasons(b, a); len(reasons) == 1 {
			alone[reasons[0]] = true
		}
	}
	for _, f := range dropFaults() {
		b, a := withFaults(dropAct, f)
		if reasons := modelActReasons(b, a); len(reasons) == 1 {
			alone[reasons[0]] = true
		}
	}
	// More than StewMaxCopies are never all there; what is no Want is none from Least to Most; what may be dropped may have nothing created, and no copy to end.
	never := []string{"2 ends", "2 want", "2 drop and create", "2 drop and ends"}
	for _, reason := range allActReasons() {
		if alone[reason] == slices.Contains(never, reason) {
			t.Errorf("%q is alone: %v", reason, alone[reason])
		}
	}
}

package tests

import (
	"fmt"
	"math"
	"math/rand"
	"reflect"
	"slices"
	"strings"
	"testing"

	"loop.example/wharffleet/impl"
)

// checkCode is for what can be told without looking at the book behind.
func checkCode(t *testing.T, what string, b impl.StewBook, a impl.StewAct, want int) impl.StewBook {
	t.Helper()
	next, code := checkApply(t, what, b, a)
	if code != want {
		t.Errorf("%s: code %d, not %d: %q", what, code, want, modelActReasons(b, a))
	}
	return next
}

func TestStewApplyCreateEdges(t *testing.T) {
	for n, code := range map[int]int{
		math.MinInt: 2, -1000001: 2, -21: 2, -20: 2, -1: 2, 0: 0, 1: 0, 10: 0, 19: 0, 20: 0, 21: 2, 22: 2, 200: 2, 1 << 32: 2, math.MaxInt - 1: 2, math.MaxInt: 2,
	} {
		next := checkCode(t, fmt.Sprint("create ", n), actBook(), impl.StewAct{Service: "web", Seen: 45, Create: n}, code)
		if code == 0 && (len(next.Copies) != 12+n || next.Services[4].Next != 1+n || next.Services[4].Version != 51) {
			t.Errorf("create %d: %+v", n, next)
		}
	}
	// Those that are Live, and those that are created, are just Want and Over together; what is Ending does not count.
	for want := range 11 {
		for over := range 11 {
			for _, live := range []int{0, 1, 5, want, want + over, want + over + 1} {
				for _, n := range []int{0, 1, want + over - live, want + over - live + 1} {
					if n < 0 || n > 20 {
						continue
					}
					b := impl.StewBook{Now: 9, Services: servicesCalled("a", "b"), Berths: []impl.StewBerth{{Name: "x"}}}
					b.Services[0].Want, b.Services[0].Over, b.Services[0].Next = want, over, 100
					for i := range live + 3 {
						b.Copies = append(b.Copies, impl.StewCopy{Service: "a", Number: i + 1, Version: 1, Image: 1 + i%2, State: 2 + i%3, Ending: i >= live, Berth: "x"})
					}
					for i := range 5 {
						b.Copies = append(b.Copies, impl.StewCopy{Service: "b", Number: i + 1, Version: 1, Image: 1, State: impl.StewReady, Berth: "x"})
					}
					code := 0
					if n > 0 && live+n > want+over {
						code = 6
					}
					checkCode(t, fmt.Sprintf("want %d, over %d, live %d, create %d", want, over, live, n), b, impl.StewAct{Service: "a", Seen: 1, Create: n}, code)
				}
			}
		}
	}
}

// Live copies are counted behind Ends, and held against the Want that Scale makes.
func TestStewApplyCreateBehindEndsAndScale(t *testing.T) {
	for live := range 9 {
		for ends := range min(live, 3) + 1 {
			for scale := -1; scale <= 5; scale++ {
				for n := range 9 {
					b := impl.StewBook{Now: 9, Services: servicesCalled("a"), Berths: []impl.StewBerth{{Name: "x"}}}
					s := &b.Services[0]
					s.Want, s.Down, s.Over, s.Next, s.Per, s.Most = 3, 0, 1, 100, 1, 10
					a := impl.StewAct{Service: "a", Seen: 1, Create: n}
					for i := range live {
						b.Copies = append(b.Copies, impl.StewCopy{Service: "a", Number: i + 1, Version: 2, Image: 1, State: impl.StewStarting, Berth: "x"})
						if i < ends {
							a.Ends = append(a.Ends, impl.StewEnd{Number: i + 1, Seen: 2})
						}
					}
					want := 3
					if scale >= 0 {
						a.Scale, a.Want, want = true, scale, scale
					}
					code := 0
					if n > 0 && live-ends+n > want+1 {
						code = 6
					}
					checkCode(t, fmt.Sprintf("live %d, ends %d, scale %d, create %d", live, ends, scale, n), b, a, code)
				}
			}
		}
	}
}

// With Scale Want and Cool have their bounds, and Want is from Least to Most; without it both are 0.
func TestStewApplyScaleEdges(t *testing.T) {
	numbers := []int{math.MinInt, -1, 0, 1, 2, 3, 4, 5, 9, 10, 11, 1000000, math.MaxInt}
	for _, bounds := range [][2]int{{0, 0}, {0, 10}, {1, 5}, {2, 2}, {3, 9}, {10, 10}} {
		for _, want := range numbers {
			for _, cool := range numbers {
				b := actBook()
				b.Services[1].Least, b.Services[1].Most = bounds[0], bounds[1]
				a := impl.StewAct{Service: "db", Seen: 20, Scale: true, Want: want, Cool: cool}
				code := 0
				switch {
				case want < 0 || want > 10 || cool < 0 || cool > 3:
					code = 2
				case want < bounds[0] || want > bounds[1]:
					code = 6
				}
				what := fmt.Sprintf("from %d to %d, want %d, cool %d", bounds[0], bounds[1], want, cool)
				next := checkCode(t, what, b, a, code)
				if code == 0 && (next.Services[1].Want != want || next.Services[1].Cool != cool) {
					t.Errorf("%s: %+v", what, next.Services[1])
				}
				a.Scale, code = false, 2
				if want == 0 && cool == 0 {
					code = 0
				}
				if next := checkCode(t, what+", without scale", b, a, code); code == 0 && (next.Services[1].Want != 3 || next.Services[1].Cool != 2) {
					t.Errorf("%s, without scale: %+v", what, next.Services[1])
				}
				// Without a load to follow nothing is scaled.
				a.Service, a.Seen, a.Scale, code = "api", 10, true, 6
				if want < 0 || want > 10 || cool < 0 || cool > 3 {
					code = 2
				}
				checkCode(t, what+", without per", b, a, code)
			}
		}
	}
	// What was outside of its bounds may come into them, and need not stay where it was; Gone does not matter.
	for _, gone := range []bool{false, true} {
		for _, was := range []int{0, 1, 5, 10} {
			for want, code := range map[int]int{2: 6, 3: 0, 4: 0, 5: 6} {
				b := actBook()
				s := &b.Services[1]
				s.Gone, s.Want, s.Least, s.Most = gone, was, 3, 4
				checkCode(t, fmt.Sprintf("gone %v, from %d to %d", gone, was, want), b, impl.StewAct{Service: "db", Seen: 20, Scale: true, Want: want}, code)
			}
		}
	}
}

// There are at most StewMaxCopies behind an act; those that are Ending count, and so do those that the act ends.
func TestStewApplyCopiesEdges(t *testing.T) {
	for _, copies := range []int{178, 179, 180, 181, 190, 198, 199, 200} {
		for _, n := range []int{0, 1, 2, 10, 19, 20} {
			b := actBook()
			fillBook(copies)(&b, nil)
			code := 0
			if copies+n > 200 {
				code = 7
			}
			next := checkCode(t, fmt.Sprintf("%d and %d", copies, n), b, impl.StewAct{Service: "web", Seen: 45, Create: n}, code)
			if code == 0 && len(next.Copies) != copies+n {
				t.Errorf("%d and %d: %d", copies, n, len(next.Copies))
			}
		}
	}
	b := actBook()
	fillBook(199)(&b, nil)
	checkCode(t, "ends make no room", b, wholeAct(), 7)
	a := wholeAct()
	a.Create = 1
	checkCode(t, "one less", b, a, 0)
	b = actBook()
	fillBook(200)(&b, nil)
	a.Create = 0
	checkCode(t, "ends and scale need none", b, a, 0)
	checkCode(t, "nor does a drop", b, dropAct(), 0)
}

func TestStewApplyNextEdges(t *testing.T) {
	for _, next := range []int{1, 2, 999979, 999980, 999981, 999990, 999998, 999999, 1000000} {
		for _, n := range []int{0, 1, 2, 10, 19, 20} {
			b := actBook()
			b.Services[4].Next = next
			code := 0
			if next+n > 1000000 {
				code = 7
			}
			what := fmt.Sprintf("next %d, create %d", next, n)
			got := checkCode(t, what, b, impl.StewAct{Service: "web", Seen: 45, Create: n}, code)
			if code != 0 {
				continue
			}
			if got.Services[4].Next != next+n || n > 0 && got.Copies[len(got.Copies)-1].Number != next+n-1 {
				t.Errorf("%s: %+v", what, got)
			}
		}
	}
	// The Next of another service does not matter.
	b := actBook()
	b.Services[0].Next, b.Services[1].Next = 1000000, 1000000
	checkCode(t, "another one's", b, impl.StewAct{Service: "web", Seen: 45, Create: 20}, 0)
}

// The last version is given, and no other behind it, whatever is asked for.
func TestStewApplyNowEdges(t *testing.T) {
	for what, a := range map[string]impl.StewAct{
		"whole": wholeAct(), "drop": dropAct(), "nothing": {Service: "api", Seen: 10}, "create": {Service: "api", Seen: 10, Create: 1},
		"ends": {Service: "db", Seen: 20, Ends: endsOf(6)}, "scale": {Service: "db", Seen: 20, Scale: true, Want: 3, Cool: 2},
	} {
		for now, code := range map[int]int{50: 0, 999998: 0, 999999: 0, 1000000: 7, 1000001: 1, math.MaxInt: 1, -1: 1, 49: 0, 40: 1, 0: 1, math.MinInt: 1} {
			b := actBook()
			b.Now = now
			next := checkCode(t, fmt.Sprint(what, " at ", now), b, a, code)
			if code == 0 && next.Now != now+1 {
				t.Errorf("%s at %d: %d", what, now, next.Now)
			}
		}
	}
}

// endsBook has a service with so many copies, none of which is missed.
func endsBook(copies int, gone bool) (impl.StewBook, impl.StewAct) {
	b := impl.StewBook{Now: 999, Services: servicesCalled("a"), Berths: []impl.StewBerth{{Name: "x"}}}
	b.Services[0].Gone, b.Services[0].Want, b.Services[0].Down = gone, 10, 10
	a := impl.StewAct{Service: "a", Seen: 1}
	for i := range copies {
		b.Copies = append(b.Copies, impl.StewCopy{Service: "a", Number: 3 * (i + 1), Version: i + 1, Image: 1, State: 2 + i%3, Berth: "x"})
		a.Ends = append(a.Ends, impl.StewEnd{Number: 3 * (i + 1), Seen: i + 1})
	}
	return b, a
}

func TestStewApplyEndsEdges(t *testing.T) {
	for _, gone := range []bool{false, true} {
		for _, n := range []int{0, 1, 2, 10, 199, 200} {
			b, a := endsBook(n, gone)
			next := checkCode(t, fmt.Sprint("ends of ", n), b, a, 0)
			if got := impl.StewCountOf(next, "a"); got != (impl.StewCount{Ending: n}) {
				t.Errorf("ends of %d: %+v", n, got)
			}
			a.Ends = append(a.Ends, impl.StewEnd{Number: 1000, Seen: 1})
			code := 3
			if n == 200 {
				code = 2
			}
			checkCode(t, fmt.Sprintf("ends of %d, and one that is not there", n), b, a, code)
		}
		b, a := endsBook(200, gone)
		if gone {
			a.Ends[199].Seen++
			checkCode(t, "the last of many was seen late", b, a, 4)
			a.Ends[199].Seen--
			b.Copies[199].Ending = true
			checkCode(t, "the last of many is Ending", b, a, 5)
			b.Copies[199].Ending = false
		} else {
			b.Services[0].Down = 9
			checkCode(t, "the last that is ready is missed", b, a, 5)
			for kept, code := range map[int]int{0: 5, 1: 0, 2: 5, 197: 5, 198: 5, 199: 0} { // two of them are ready
				rest := a
				rest.Ends = slices.Delete(slices.Clone(a.Ends), kept, kept+1)
				checkCode(t, fmt.Sprint("but for ", kept), b, rest, code)
			}
		}
	}
	for what, c := range map[string]struct {
		code int
		ends []impl.StewEnd
	}{
		"nil":                     {0, nil},
		"empty":                   {0, []impl.StewEnd{}},
		"twice the same":          {2, endsSeen([2]int{6, 26}, [2]int{6, 26})},
		"twice, seen differently": {2, endsSeen([2]int{6, 25}, [2]int{6, 26})},
		"twice, not there":        {2, endsSeen([2]int{99, 1}, [2]int{99, 1})},
		"in wrong order":          {2, endsSeen([2]int{7, 27}, [2]int{6, 26})},
		"the last in wrong order": {2, endsSeen([2]int{6, 26}, [2]int{9, 29}, [2]int{7, 27})},
		"farthest apart":          {3, endsSeen([2]int{math.MinInt, 1}, [2]int{math.MaxInt, 1})},
		"farthest, wrong order":   {2, endsSeen([2]int{math.MaxInt, 1}, [2]int{math.MinInt, 1})},
		"in order of numbers":     {0, endsSeen([2]int{6, 26}, [2]int{7, 27}, [2]int{9, 29})},
		"by what was seen":        {2, endsSeen([2]int{9, 26}, [2]int{7, 27})},
		"seen at nothing":         {4, endsSeen([2]int{6, 0})},
		"seen at the farthest":    {4, endsSeen([2]int{6, math.MaxInt})},
		"number 0":                {3, endsSeen([2]int{0, 0})},
		"too many, one over":      {2, manyEnds(201)},
		"as many as may be":       {3, manyEnds(200)},
		"far too many":            {2, manyEnds(5000)},
		"far too many alike":      {2, slices.Repeat(endsSeen([2]int{6, 26}), 5000)},
	} {
		checkCode(t, what, actBook(), impl.StewAct{Service: "db", Seen: 20, Ends: c.ends}, c.code)
	}
}

// endsSeen are numbers, each with the version in which it was seen.
func endsSeen(list ...[2]int) []impl.StewEnd {
	var ends []impl.StewEnd
	for _, e := range list {
		ends = append(ends, impl.StewEnd{Number: e[0], Seen: e[1]})
	}
	return ends
}

// manyEnds ascend, and are mostly of copies that are not there.
func manyEnds(n int) []impl.StewEnd {
	var ends []impl.StewEnd
	for i := range n {
		ends = append(ends, impl.StewEnd{Number: i + 1, Seen: 21 + i})
	}
	return ends
}

// An act of a service has nothing to do with copies of another one, also where they have the same numbers.
func TestStewApplyEndsOfOwnService(t *testing.T) {
	names := []string{"a", "a-", "aa", "b"}
	for at, name := range names {
		b := impl.StewBook{Now: 99, Services: servicesCalled(names...), Berths: []impl.StewBerth{{Name: "a"}}}
		for i, other := range names {
			b.Services[i].Version = 10 + i
			for number := 1; number <= 4; number++ {
				b.Copies = append(b.Copies, impl.StewCopy{Service: other, Number: number, Version: 20 + 10*i + number, Image: 1, State: impl.StewReady, Berth: "a"})
			}
		}
		a := impl.StewAct{Service: name, Seen: 10 + at, Ends: endsSeen([2]int{2, 20 + 10*at + 2}, [2]int{4, 20 + 10*at + 4})}
		next := checkCode(t, name, b, a, 0)
		for i, c := range next.Copies {
			if touched := i/4 == at && i%2 == 1; c.Ending != touched || (c.Version == 100) != touched {
				t.Errorf("%q: %+v", name, c)
			}
		}
		a.Ends[1].Seen += 10
		checkCode(t, name+", as another one was seen", b, a, 4)
		a.Ends[1].Seen -= 10
		a.Seen++
		checkCode(t, name+", another service's version", b, a, 4)
	}
}

// actNumbers are all numbers of an act, to be set.
func actNumbers(a *impl.StewAct) []reflect.Value {
	return partsOf(reflect.ValueOf(a).Elem(), reflect.Int)
}

// The greatest and the least int as every number, of the act and of the book.
func TestStewApplyFarthestNumbers(t *testing.T) {
	for _, n := range []int{math.MinInt, math.MinInt + 1, -1, 1000001, math.MaxInt - 1, math.MaxInt} {
		for _, base := range []func() impl.StewAct{wholeAct, dropAct, func() impl.StewAct { return impl.StewAct{Service: "db", Seen: 20, Ends: endsOf(6, 7, 9)} }} {
			whole := base()
			all := actNumbers(&whole)
			if want := 4 + 2*len(whole.Ends); len(all) != want {
				t.Fatalf("an act has %d numbers, not %d", len(all), want)
			}
			for _, number := range all {
				number.SetInt(int64(n))
			}
			checkCode(t, fmt.Sprint("all are ", n), actBook(), whole, 2)
			for i := range all {
				a := base()
				actNumbers(&a)[i].SetInt(int64(n))
				if _, code := checkApply(t, fmt.Sprintf("number %d is %d", i, n), actBook(), a); code == 0 || code == 1 {
					t.Errorf("number %d is %d: code %d", i, n, code)
				}
			}
			b := actBook()
			for i := range numbersOf(&b) {
				b := actBook()
				numbersOf(&b)[i].SetInt(int64(n))
				if _, code := checkApply(t, fmt.Sprintf("the book's number %d is %d", i, n), b, base()); code == 1 != (len(modelBookFaults(b)) > 0) || code == 0 && n != 1000001 {
					t.Errorf("the book's number %d is %d: code %d", i, n, code)
				}
			}
		}
	}
}

func TestStewApplyNotValid(t *testing.T) {
	books := brokenBooks()
	crowded := actBook()
	fillBook(201)(&crowded, nil)
	books["too many copies"] = crowded
	for what, b := range books {
		for _, a := range []impl.StewAct{{}, wholeAct(), dropAct(), {Service: "db", Create: -1, Drop: true}, {Service: "db", Seen: 20}, {Service: "cache", Seen: 1, Create: 1}} {
			if next := checkCode(t, what, b, a, 1); !reflect.DeepEqual(plainBook(next), impl.StewBook{}) {
				t.Errorf("%s: %+v", what, next)
			}
		}
	}
}

func TestStewApplyGreat(t *testing.T) {
	b := greatBook(8, 180, 6)
	b.Now = 999999
	for i := range b.Services {
		s := &b.Services[i]
		s.Version, s.Next = 999999, 999980
		s.Least = 0
	}
	for i := range b.Copies {
		b.Copies[i].Number, b.Copies[i].Version = 999979-180+i, 999999
		b.Copies[i].Ending = true
	}
	last := b.Services[7].Name
	next := checkCode(t, "all at their greatest", b, impl.StewAct{Service: last, Seen: 999999, Create: 20, Scale: true, Want: 10, Cool: 3}, 0)
	if len(next.Copies) != 200 || next.Now != 1000000 || next.Services[7].Next != 1000000 || next.Copies[199].Number != 999999 {
		t.Errorf("%+v", next)
	}
	checkCode(t, "and no more", next, impl.StewAct{Service: last, Seen: 1000000}, 7)
	inGoodTime(t, "what is far too long", func() {
		long := strings.Repeat("a", 10000000)
		checks := []func() int{
			func() int {
				b := fullBook()
				b.Copies = slices.Repeat(b.Copies, 20000)
				_, code := impl.StewApply(b, impl.StewAct{Service: "db"})
				return code - 1
			},
			func() int {
				_, code := impl.StewApply(actBook(), impl.StewAct{Service: "db", Seen: 20, Ends: manyEnds(1000000)})
				return code - 2
			},
			func() int { _, code := impl.StewApply(actBook(), impl.StewAct{Service: long}); return code - 3 },
			func() int {
				b := actBook()
				b.Services[0].Name, b.Berths[0].Name, b.Copies[0].Service = long, long, long
				_, code := impl.StewApply(b, impl.StewAct{Service: long})
				return code - 1
			},
		}
		for i, check := range checks {
			if off := check(); off != 0 {
				t.Errorf("check %d is off by %d", i, off)
			}
		}
	})
}

func TestStewApplyOddNames(t *testing.T) {
	_, others := stewNames()
	for _, name := range append(others, "DB", "db ", " db", "db\x00", "d", "dbb", "db-") {
		for _, a := range []impl.StewAct{wholeAct(), dropAct(), {}} {
			a.Service = name
			checkCode(t, fmt.Sprintf("%.30q", name), actBook(), a, 3)
		}
	}
	// Each name that a service may have is found.
	names, _ := stewNames()
	for _, name := range names {
		b := impl.StewBook{Now: 3, Services: servicesCalled(name)}
		b.Services[0].Next = 5
		next := checkCode(t, name, b, impl.StewAct{Service: name, Seen: 1, Create: 2}, 0)
		if len(next.Copies) != 2 || next.Copies[1].Service != name {
			t.Errorf("%q: %+v", name, next)
		}
	}
}

// actWithRoom has something behind the end of its list.
func actWithRoom(a impl.StewAct) impl.StewAct {
	a.Ends = append(slices.Clone(a.Ends), impl.StewEnd{Number: 77, Seen: 7}, impl.StewEnd{Number: 78, Seen: 8})[:len(a.Ends)]
	return a
}

// The arguments are as they were, also behind their ends, and what comes back shares no memory with them, with each code.
func TestStewApplyMemory(t *testing.T) {
	t.Parallel()
	r := rand.New(rand.NewSource(213))
	met := map[int]int{}
	check := func(b impl.StewBook, a impl.StewAct) {
		b, a = bookWithRoom(b), actWithRoom(a)
		a.Service = strings.Clone(a.Service)
		before, beforeEnds := wholeBook(b), slices.Clone(a.Ends[:len(a.Ends)+2])
		next, code := impl.StewApply(b, a)
		met[code]++
		checkOwnMemory(t, []any{b, a}, []any{next})
		checkOwnTexts(t, []any{b, a}, []any{next})
		if !reflect.DeepEqual(wholeBook(b), before) || !slices.Equal(a.Ends[:len(a.Ends)+2], beforeEnds) {
			t.Fatalf("the arguments were %+v, %+v, and are %+v, %+v", before, beforeEnds, b, a)
		}
		a.Ends = slices.Clip(slices.Clone(a.Ends))
		if alone, aloneCode := impl.StewApply(cloneBook(b), a); aloneCode != code || !sameBook(alone, next) {
			t.Fatalf("what stands behind is asked: %+v of %+v", a, b)
		}
	}
	for _, f := range wholeFaults() {
		check(withFaults(wholeAct, f))
	}
	for _, f := range dropFaults() {
		check(withFaults(dropAct, f))
	}
	check(actBook(), wholeAct())
	check(actBook(), dropAct())
	check(impl.StewBook{}, impl.StewAct{})
	for i := range 1500 {
		b := readyBook(r)
		a := randomAct(r, b)
		if i%3 == 0 {
			breakAct(r, &a)
		}
		if i%10 == 0 {
			breakBook(r, &b)
		}
		check(b, a)
	}
	for code := range 8 {
		if met[code] < 10 {
			t.Errorf("the acts tell too little: %v", met)
		}
	}
}

// What is written into an answer is not seen in another answer to the same, nor in the arguments.
func TestStewApplyAnswersAreTheirOwn(t *testing.T) {
	acts := map[string]impl.StewAct{
		"whole": wholeAct(), "drop": dropAct(), "nothing": {Service: "api", Seen: 10}, "no act": {Create: -1}, "not there": {},
		"late": {Service: "db"}, "harm": {Service: "db", Seen: 20, Ends: endsOf(1, 2)}, "unfit": {Service: "db", Seen: 20, Drop: true},
	}
	for what, a := range acts {
		b := actBook()
		first, code := impl.StewApply(b, a)
		second, again := impl.StewApply(b, a)
		before := plainBook(first)
		clear(second.Services[:cap(second.Services)])
		clear(second.Copies[:cap(second.Copies)])
		clear(second.Berths[:cap(second.Berths)])
		if code != again || !sameBook(first, before) || !sameBook(b, actBook()) {
			t.Errorf("%s: the answer or the argument has changed", what)
		}
	}
}

package tests

import (
	"fmt"
	"maps"
	"math"
	"slices"
	"strings"
	"testing"

	"loop.example/wharffleet/impl"
)

// seaBook has the berths and the copies that are told. A berth is told by its name, with a minus if it is to be drained; a copy by the letters of its service, State (w, s, r or f) and, if it does not wait, berth, with an e if it is Ending. Copies have the Numbers 1, 2 and so on within their services, and Versions of their own.
func seaBook(berths string, copies string) impl.StewBook {
	b := impl.StewBook{Now: 900}
	for _, name := range strings.Fields(berths) {
		b.Berths = append(b.Berths, impl.StewBerth{Name: strings.TrimSuffix(name, "-"), Drain: strings.HasSuffix(name, "-")})
	}
	for i, letters := range strings.Fields(copies) {
		name := letters[:1]
		if len(b.Services) == 0 || b.Services[len(b.Services)-1].Name != name {
			b.Services = append(b.Services, impl.StewService{Name: name, Version: 10 + len(b.Services), Image: 2, Want: 3, Down: 1, Over: 1, Next: 1})
		}
		s := &b.Services[len(b.Services)-1]
		c := impl.StewCopy{Service: name, Number: s.Next, Version: 100 + i, Image: 2, State: 1 + strings.IndexByte("wsrf", letters[1]), Ending: strings.HasSuffix(letters, "e")}
		if c.State != impl.StewWaiting {
			c.Berth = letters[2:3]
		}
		s.Next++
		b.Copies = append(b.Copies, c)
	}
	return b
}

// seaText tells the copies of a book: service, number, State, berth, an e if one is Ending, and a star if it has the book's version.
func seaText(b impl.StewBook) string {
	var all []string
	for _, c := range b.Copies {
		text := fmt.Sprint(c.Service, c.Number, "-wsrf"[c.State:c.State+1], c.Berth)
		if c.Ending {
			text += "e"
		}
		if c.Version == b.Now {
			text += "*"
		}
		all = append(all, text)
	}
	return strings.Join(all, " ")
}

func checkTick(t *testing.T, what string, b impl.StewBook, want string) {
	t.Helper()
	next := checkSeaCode(t, what, b, impl.StewEvent{Kind: impl.StewTick}, 0)
	if got := seaText(next); got != want {
		t.Errorf("%s: %q, not %q", what, got, want)
	}
	if !slices.Equal(next.Services, b.Services) || !slices.Equal(next.Berths, b.Berths) || next.Now != b.Now+1 {
		t.Errorf("%s: services, berths or Now are others: %+v", what, next)
	}
}

func TestStewTick(t *testing.T) {
	for _, c := range []struct{ what, berths, copies, want string }{
		{"nothing", "", "", ""},
		{"berths alone", "x y-", "", ""},
		{"each state", "x", "aw asx arx afx", "a1sx* a2rx* a3rx a4fx"},
		{"each state, Ending", "x", "awe asxe arxe afxe", ""},
		{"each state, Ending and not", "x", "awe aw asxe asx arxe arx afxe afx", "a2sx* a4rx* a6rx a8fx"},
		{"nothing changes", "x y-", "arx afx ary bfy brx", "a1rx a2fx a3ry b1fy b2rx"},
		{"what starts is ready on a berth that is to be drained, too", "x-", "asx", "a1rx*"},
		{"what waits does not become ready at once", "x", "aw", "a1sx*"},
		{"what is failed stays so", "x", "afx", "a1fx"},

		{"what ends goes first", "x y", "arxe arxe ary aw", "a3ry a4sx*"},
		{"what ends goes first, behind what waits", "x y", "aw brxe brxe bry", "a1sx* b3ry"},
		{"what ends goes first, of each state", "x y", "arxe asxe afxe arx ary asy aw", "a4rx a5ry a6ry* a7sx*"},
		{"what ends and waits gets no berth", "x y", "awe aw", "a2sx*"},
		{"what ends and waits does not count for the next one", "x y", "awe awe aw aw", "a3sx* a4sy*"},
		{"what ends and starts does not become ready", "x", "asxe", ""},

		{"each counts for the next one", "x y z", "aw aw aw aw aw", "a1sx* a2sy* a3sz* a4sx* a5sy*"},
		{"each counts for those of other services", "x y", "aw bw cw dw", "a1sx* b1sy* c1sx* d1sy*"},
		{"the fewest", "x y z", "arx arx ary arz arz aw", "a1rx a2rx a3ry a4rz a5rz a6sy*"},
		{"the fewest, of all services", "x y", "arx brx cry cw", "a1rx b1rx c1ry c2sy*"},
		{"the fewest, of all states", "x y", "arx afx asx ary afy aw", "a1rx a2fx a3rx* a4ry a5fy a6sy*"},
		{"failed ones count", "x y", "afx aw", "a1fx a2sy*"},
		{"those that become ready count", "x y", "asx aw", "a1rx* a2sy*"},
		{"up to as many, and then the first", "x y", "arx arx aw aw aw aw", "a1rx a2rx a3sy* a4sy* a5sx* a6sy*"},
		{"in order, not as they stand on berths", "x y z", "ary arz aw brx bw cw", "a1ry a2rz a3sx* b1rx b2sy* c1sz*"},

		{"equal numbers", "x y z", "arx ary arz aw", "a1rx a2ry a3rz a4sx*"},
		{"equal numbers, but for the first", "x y z", "arx aw", "a1rx a2sy*"},
		{"equal numbers, but for the last", "x y z", "arx ary aw", "a1rx a2ry a3sz*"},
		{"equal numbers, the first to be drained", "x- y z", "aw aw aw", "a1sy* a2sz* a3sy*"},

		{"none is to be drained", "x y", "aw aw", "a1sx* a2sy*"},
		{"the first is to be drained", "x- y", "aw aw", "a1sy* a2sy*"},
		{"the last is to be drained", "x y-", "aw aw", "a1sx* a2sx*"},
		{"one is to be drained, with fewer on it", "x y-", "arx arx aw", "a1rx a2rx a3sx*"},
		{"all are to be drained", "x- y-", "aw asx ary awe", "a1w a2rx* a3ry"},
		{"all are to be drained, and only waiting ones", "x- y-", "aw bw", "a1w b1w"},
		{"the only one is to be drained", "x-", "aw", "a1w"},
		{"no berth at all", "", "aw awe bw", "a1w b1w"},
	} {
		checkTick(t, c.what, seaBook(c.berths, c.copies), c.want)
	}
}

// The order of berths is that of their names, byte by byte, and not that of how many letters they have.
func TestStewTickOrderOfBerths(t *testing.T) {
	names := []string{"-", "0", "9", "a", "a-", "a0", "aa", "b"}
	for at := range names[:3] {
		some := names[at : at+6]
		b := seaBook("", "aw aw aw aw aw aw aw")
		for _, name := range some {
			b.Berths = append(b.Berths, impl.StewBerth{Name: name})
		}
		next := checkSeaCode(t, "names", b, impl.StewEvent{Kind: impl.StewTick}, 0)
		for i, c := range next.Copies {
			if c.Berth != some[i%6] {
				t.Errorf("%q: copy %d gets %q", some, i, c.Berth)
			}
		}
	}
}

// Three berths with so many on each, to be drained or not, and so many that wait: each takes the one with the fewest.
func TestStewTickGrid(t *testing.T) {
	t.Parallel()
	for stand := range 64 {
		for drain := range 8 {
			for waiting := range 5 {
				var berths, copies []string
				for at, name := range []string{"x", "y", "z"} {
					copies = append(copies, slices.Repeat([]string{"ar" + name}, stand>>(2*at)&3)...)
					berths = append(berths, name+map[bool]string{true: "-"}[drain>>at&1 == 1])
				}
				copies = append(copies, slices.Repeat([]string{"aw"}, waiting)...)
				b := seaBook(strings.Join(berths, " "), strings.Join(copies, " "))
				next := checkSeaCode(t, "grid", b, impl.StewEvent{Kind: impl.StewTick}, 0)
				on := map[string]int{}
				for _, c := range next.Copies {
					if c.State == impl.StewReady {
						on[c.Berth]++
						continue
					}
					for _, h := range b.Berths {
						if !h.Drain && (c.Berth == "" || on[h.Name] < on[c.Berth] || on[h.Name] == on[c.Berth] && h.Name < c.Berth) || h.Drain && h.Name == c.Berth {
							t.Fatalf("%q, %q: %s: %q would be better", berths, copies, seaText(next), h.Name)
						}
					}
					on[c.Berth]++
				}
			}
		}
	}
}

// Ticks, one after the other: what waits starts, and then is ready; behind that nothing changes any more.
func TestStewTicksInTurn(t *testing.T) {
	b := seaBook("x y", "aw asx arye bw bfx")
	for i, want := range []string{"a1sy* a2rx* b1sy* b2fx", "a1ry* a2rx b1ry* b2fx", "a1ry a2rx b1ry b2fx", "a1ry a2rx b1ry b2fx"} {
		b = checkSeaCode(t, "in turn", b, impl.StewEvent{Kind: impl.StewTick}, 0)
		if got := seaText(b); got != want || b.Now != 901+i {
			t.Errorf("tick %d: %q, not %q", i, got, want)
		}
	}
}

// Services that are Gone have ticks like others, and so have copies of any image.
func TestStewTickOfAnyService(t *testing.T) {
	for _, gone := range []bool{false, true} {
		for _, image := range []int{1, 2, 3} {
			b := seaBook("x y", "awe aw asx ary afx")
			b.Services[0].Gone, b.Services[0].Want = gone, 0
			for i := range b.Copies {
				b.Copies[i].Image = image
			}
			checkTick(t, fmt.Sprintf("gone %v, image %d", gone, image), b, "a2sy* a3rx* a4ry a5fx")
		}
	}
}

// Versions, numbers and all else of a copy stay as they were, where a tick does not change them.
func TestStewTickWhole(t *testing.T) {
	b := fullBook()
	b.Copies[5].Ending = false
	next := checkSeaCode(t, "whole", b, impl.StewEvent{Kind: impl.StewTick}, 0)
	want := cloneBook(b)
	want.Now = 21
	want.Copies[1].State, want.Copies[1].Version = impl.StewReady, 21
	want.Copies[3].State, want.Copies[3].Berth, want.Copies[3].Version = impl.StewStarting, "a", 21
	want.Copies[5].State, want.Copies[5].Berth, want.Copies[5].Version = impl.StewStarting, "a", 21
	want.Copies = slices.Delete(slices.Delete(want.Copies, 6, 7), 2, 3)
	if !sameBook(next, want) {
		t.Errorf("%+v\nnot %+v", next, want)
	}
}

func TestStewTickGreat(t *testing.T) {
	b := seaBook("a b c d e f", "")
	b.Services = servicesCalled("s", "t")
	for i := range 200 {
		b.Copies = append(b.Copies, impl.StewCopy{Service: "s", Number: i + 1, Version: 1, Image: 1, State: impl.StewWaiting})
	}
	next := checkSeaCode(t, "all wait", b, impl.StewEvent{Kind: impl.StewTick}, 0)
	on := map[string]int{}
	for i, c := range next.Copies {
		if on[c.Berth]++; c.Berth != "abcdef"[i%6:i%6+1] || c.State != impl.StewStarting || c.Version != 901 {
			t.Errorf("%+v", c)
		}
	}
	if fmt.Sprint(on) != "map[a:34 b:34 c:33 d:33 e:33 f:33]" {
		t.Errorf("%v", on)
	}
	for i := range b.Copies {
		b.Copies[i].Ending = true
	}
	if next := checkSeaCode(t, "all end", b, impl.StewEvent{Kind: impl.StewTick}, 0); len(next.Copies) != 0 {
		t.Errorf("%+v", next)
	}
}

// seaEvents are such as happen in fullBook, of each kind, and behind which all is still valid at any Now.
func seaEvents() map[int]impl.StewEvent {
	return map[int]impl.StewEvent{
		impl.StewTick:  {Kind: impl.StewTick},
		impl.StewWish:  {Kind: impl.StewWish, Service: impl.StewService{Name: "new", Image: 1, Want: 2, Over: 1}},
		impl.StewFails: {Kind: impl.StewFails, Name: "db", Number: 1},
		impl.StewSink:  {Kind: impl.StewSink, Name: "b"},
		impl.StewRaise: {Kind: impl.StewRaise, Name: "d", Flag: true},
		impl.StewLoad:  {Kind: impl.StewLoad, Name: "db", Number: 77},
	}
}

// refusedEvents are such as do not happen in fullBook, of each kind that may be refused, with their codes.
func refusedEvents() map[int][]impl.StewEvent {
	return map[int][]impl.StewEvent{
		2: {
			{Kind: impl.StewWish}, {Kind: impl.StewWish, Service: impl.StewService{Name: "db", Image: 1, Want: 11, Over: 1}},
			{Kind: impl.StewRaise}, {Kind: impl.StewRaise, Name: "A", Flag: true},
			{Kind: impl.StewLoad, Name: "db", Number: -1}, {Kind: impl.StewLoad, Name: "db", Number: 1000001},
		},
		3: {
			{Kind: impl.StewFails}, {Kind: impl.StewFails, Name: "db", Number: 4}, {Kind: impl.StewFails, Name: "db", Number: 5}, {Kind: impl.StewFails, Name: "db", Number: 7},
			{Kind: impl.StewSink}, {Kind: impl.StewSink, Name: "db"},
			{Kind: impl.StewLoad}, {Kind: impl.StewLoad, Name: "a", Number: 1}, {Kind: impl.StewLoad, Name: "web", Number: 1},
			{Kind: impl.StewLoad, Number: -1}, {Kind: impl.StewLoad, Name: "none", Number: 1000001}, {Kind: impl.StewLoad, Name: "web", Number: -1}, {Kind: impl.StewLoad, Name: "web", Number: math.MaxInt},
		},
		4: {{}, {Kind: 7}, {Kind: -1}, {Kind: math.MaxInt}, {Kind: math.MinInt}},
	}
}

func TestStewSeaKinds(t *testing.T) {
	if impl.StewTick != 1 || impl.StewWish != 2 || impl.StewFails != 3 || impl.StewSink != 4 || impl.StewRaise != 5 || impl.StewLoad != 6 {
		t.Error("the kinds are others")
	}
	for _, e := range seaEvents() {
		checkSeaCode(t, "it happens", fullBook(), e, 0)
		for _, kind := range []int{math.MinInt, math.MinInt + 1, math.MinInt32, -7, -6, -2, -1, 0, 7, 8, 9, 100, 1 << 8, 1<<8 + 1, 1 << 32, 1<<32 + 1, 1<<32 + 6, math.MaxInt - 1, math.MaxInt} {
			e.Kind = kind
			for _, b := range []impl.StewBook{{}, fullBook(), actBook()} {
				checkSeaCode(t, fmt.Sprint("kind ", kind), b, e, 4)
			}
		}
	}
	checkSeaCode(t, "nothing", impl.StewBook{}, impl.StewEvent{}, 4)
	for kind, code := range map[int]int{impl.StewTick: 0, impl.StewWish: 2, impl.StewFails: 3, impl.StewSink: 3, impl.StewRaise: 2, impl.StewLoad: 3} {
		checkSeaCode(t, "nothing else", impl.StewBook{}, impl.StewEvent{Kind: kind}, code)
		checkSeaCode(t, "nothing else", fullBook(), impl.StewEvent{Kind: kind}, code)
	}
}

// The last version is given, and no other one behind it, whatever happens.
func TestStewSeaNow(t *testing.T) {
	for kind, e := range seaEvents() {
		for now, code := range map[int]int{20: 0, 21: 0, 999998: 0, 999999: 0, 1000000: 7, 1000001: 1, math.MaxInt: 1, 19: 1, 0: 1, -1: 1, math.MinInt: 1} {
			b := fullBook()
			b.Now = now
			next := checkSeaCode(t, fmt.Sprint("kind ", kind, " at ", now), b, e, code)
			if code == 0 && next.Now != now+1 {
				t.Errorf("kind %d at %d: %d", kind, now, next.Now)
			}
		}
	}
	// From nothing: the first change is the version 1.
	b := impl.StewBook{}
	for i, e := range []impl.StewEvent{{Kind: impl.StewTick}, {Kind: impl.StewRaise, Name: "x"}, {Kind: impl.StewWish, Service: impl.StewService{Name: "a", Image: 1, Over: 1}}} {
		b = checkSeaCode(t, "from nothing", b, e, 0)
		if b.Now != i+1 {
			t.Errorf("%d: %+v", i, b)
		}
	}
	if b.Services[0].Version != 3 {
		t.Errorf("%+v", b)
	}
}

// Each pair of codes that can both be told: the one that is listed first is.
func TestStewSeaCodesInOrder(t *testing.T) {
	met := map[string]int{}
	check := func(b impl.StewBook, e impl.StewEvent, code int) {
		t.Helper()
		checkSeaCode(t, fmt.Sprintf("%+v at %d", e, b.Now), b, e, code)
		reasons := modelSeaReasons(b, e)
		for _, later := range reasons[1:] {
			met[reasons[0][1:2]+later[1:2]]++
		}
	}
	last := fullBook()
	last.Now = 1000000
	for code, events := range refusedEvents() {
		for _, e := range events {
			check(fullBook(), e, code)
			for _, b := range brokenBooks() {
				check(b, e, 1)
				b.Now = 1000000
				check(b, e, 1)
			}
			check(last, e, map[bool]int{true: 4, false: 7}[code == 4])
		}
	}
	for _, pair := range []string{"14", "47", "72", "73", "32"} {
		if met[pair] == 0 {
			t.Errorf("codes %s were never due at once: %v", pair, met)
		}
	}
}

func TestStewSeaNotValid(t *testing.T) {
	books := brokenBooks()
	for _, c := range bookNumbers() {
		for _, n := range []int{math.MinInt, c.least - 1, c.most + 1, math.MaxInt} {
			b := fullBook()
			*c.of(&b) = n
			books[fmt.Sprint(c.what, " ", n)] = b
		}
	}
	for what, b := range map[string]impl.StewBook{"services": greatBook(9, 200, 6), "copies": greatBook(8, 201, 6), "berths": greatBook(8, 200, 7)} {
		books["too many "+what] = b
	}
	// What would be mended by the event is not asked.
	mended := fullBook()
	mended.Services[1].Load = -1
	books["a load that would be mended"] = mended
	mended = fullBook()
	mended.Berths[1].Name = "b_"
	books["a berth that would be gone"] = mended
	for what, b := range books {
		for _, e := range append(slices.Collect(maps.Values(seaEvents())), impl.StewEvent{}, impl.StewEvent{Kind: impl.StewSink, Name: "b_"}) {
			if next := checkSeaCode(t, what, b, e, 1); !sameBook(next, impl.StewBook{}) {
				t.Errorf("%s: %+v", what, next)
			}
		}
	}
}

package tests

import (
	"fmt"
	"math"
	"slices"
	"strings"
	"testing"

	"loop.example/wharffleet/impl"
)

func TestMateWorldNumbers(t *testing.T) {
	got := []int{impl.MateMaxFlight, impl.MateMaxCalm, impl.MateEvTick, impl.MateEvBring, impl.MateEvDouble, impl.MateEvLose, impl.MateEvFall, impl.MateEvRise, impl.MateEvPut}
	if !slices.Equal(got, []int{300, 1000, 1, 2, 3, 4, 5, 6, 7}) {
		t.Error(got)
	}
}

func TestMateNewWorld(t *testing.T) {
	long := strings.Repeat("~", 20)
	for _, names := range [][]string{{"a"}, {"*"}, {long}, {"a", "b"}, {"a", "aa"}, {"!", "A", "a", long}} {
		w := impl.MateNewWorld(names)
		if !sameWorld(w, modelNewWorld(names)) || len(w.Mates) != len(names) {
			t.Errorf("%q: %+v", names, w)
		}
		for i, m := range w.Mates {
			if m.Name != names[i] || !m.Up || m.Known || tellMate(m) != "0 [] asks [] gives []" {
				t.Errorf("%q: %+v", names, m)
			}
		}
		checkWorldOk(t, fmt.Sprint(names), w, true)
		if !impl.MateSafe(w) || !impl.MateSettled(w) || tellLand(w.Land) != "0 [] " || len(w.Flight) != 0 {
			t.Errorf("%q: %+v", names, w)
		}
	}
	none := [][]string{nil, {}, {"a", "b", "c", "d", "e"}, {"a", "a"}, {"b", "a"}, {"aa", "a"}, {"a", "b", "a"}, {"a", "b", "d", "c"}, slices.Repeat([]string{"a"}, 100000)}
	for _, name := range notNames() {
		none = append(none, []string{name}, []string{"!", "~" + name})
	}
	for _, names := range none {
		if len(names) == 2 && modelMateName.MatchString(names[1]) && names[0] < names[1] {
			continue // behind another byte it is a name
		}
		w := impl.MateNewWorld(names)
		if !sameWorld(w, impl.MateWorld{}) || len(modelNewWorld(names).Mates) != 0 {
			t.Errorf("%.99q: %+v", names, w)
		}
		checkWorldOk(t, "nothing", w, false)
		checkAsked(t, w)
	}
}

// worldTale is a world to which one thing is done behind the other, each held against the second reading.
type worldTale struct {
	t *testing.T
	w impl.MateWorld
}

func newWorldTale(t *testing.T, names ...string) *worldTale {
	return &worldTale{t, impl.MateNewWorld(names)}
}

func (x *worldTale) do(e impl.MateEvent) {
	x.t.Helper()
	x.w = checkDone(x.t, x.w, e, noNote)
	checkWorldOk(x.t, "in a tale", x.w, true)
}

func (x *worldTale) tick(rates ...int) {
	x.t.Helper()
	x.do(impl.MateEvent{Kind: impl.MateEvTick, Rates: rates})
}

func (x *worldTale) put(at int, wants ...impl.MateWant) {
	x.t.Helper()
	x.do(impl.MateEvent{Kind: impl.MateEvPut, A: at, Wants: wants})
}

func (x *worldTale) handle(kind int, places ...int) {
	x.t.Helper()
	for _, place := range places {
		x.do(impl.MateEvent{Kind: kind, A: place})
	}
}

// bring brings what is in flight so often, from its front.
func (x *worldTale) bring(n int) {
	x.t.Helper()
	x.handle(impl.MateEvBring, slices.Repeat([]int{0}, n)...)
}

func (x *worldTale) calm(rounds int, rates ...int) {
	x.t.Helper()
	x.w = checkCalm(x.t, x.w, rounds, rates...)
	checkWorldOk(x.t, "in a tale", x.w, true)
}

// doesNot is an event by which nothing happens.
func (x *worldTale) doesNot(e impl.MateEvent) {
	x.t.Helper()
	before := plainWorld(x.w)
	if x.do(e); !sameWorld(x.w, before) {
		x.t.Errorf("by %+v it is\n%s, not\n%s", e, tellWorld(x.w), tellWorld(before))
	}
}

func (x *worldTale) is(want string) {
	x.t.Helper()
	if got := tellWorld(x.w); got != want {
		x.t.Errorf("the world is\n%s, not\n%s", got, want)
	}
}

func (x *worldTale) flies(want string) {
	x.t.Helper()
	if got := tellFlight(x.w); got != want {
		x.t.Errorf("in flight is\n%s, not\n%s", got, want)
	}
}

func tellFlight(w impl.MateWorld) string {
	return strings.ReplaceAll(strings.Join(w.Flight, ""), "\n", "; ")
}

// tellWorld is a world's book and mates, a line each; a mate that is down has a minus.
func tellWorld(w impl.MateWorld) string {
	lines := []string{tellLand(w.Land)}
	for _, m := range w.Mates {
		lines = append(lines, map[bool]string{true: "", false: "-"}[m.Up]+m.Name+" "+tellMate(m))
	}
	return strings.Join(lines, "\n")
}

// settles asks whether it is settled, and how many runs are alive on each mate.
func (x *worldTale) settles(want bool, alive ...int) {
	x.t.Helper()
	var got []int
	for _, m := range x.w.Mates {
		n := 0
		for _, run := range m.Runs {
			if modelAlive(run) {
				n++
			}
		}
		got = append(got, n)
	}
	if impl.MateSettled(x.w) != want || !slices.Equal(got, alive) {
		x.t.Errorf("settled: %v, not %v; alive: %v, not %v\n%s", !want, want, got, alive, tellWorld(x.w))
	}
}

// quick is a want that takes a tick for each thing.
func quick(copy, hold string) impl.MateWant {
	return impl.MateWant{Copy: copy, Version: 1, Hold: hold, Pull: 1, Start: 1, Grace: 3}
}

// From what is wanted to what runs, event by event.
func TestMateWorldTale(t *testing.T) {
	x := newWorldTale(t, "a", "b")
	x.settles(true, 0, 0)
	x.put(0, quick("x", "v"), quick("y", ""))
	x.settles(false, 0, 0)
	x.tick(1, 4)
	x.flies("told a 1; want x 1 v 1 1 0 3; want y 1 * 1 1 0 3; here a 0; here b 0; ")
	x.is("2 [] a1(x=v y=)\na 1 [] asks [] gives []\nb 4 [] asks [] gives []")
	x.bring(1)
	x.flies("here a 0; here b 0; ")
	if m := x.w.Mates[0]; !m.Known || m.Seen != 1 || x.w.Mates[1].Known {
		t.Errorf("%+v", x.w.Mates)
	}
	x.bring(2)
	x.flies("")
	x.tick(1, 4)
	x.flies("told a 1; want x 1 v 1 1 0 3; want y 1 * 1 1 0 3; asked a v x 2; here a 1; here b 0; ")
	x.is("4 [] a1(x=v y=)\na 2 [x1/1@0 y1/1@0] asks [v=x:2-2] gives []\nb 8 [] asks [] gives []")
	x.handle(impl.MateEvBring, 1)
	x.flies("told a 1; want x 1 v 1 1 0 3; want y 1 * 1 1 0 3; here a 1; here b 0; given a v x 2; ")
	x.is("4 [v=a/x@2<36] a1(x=v y=)\na 2 [x1/1@0 y1/1@0] asks [v=x:2-2] gives []\nb 8 [] asks [] gives []")
	x.tick(1, 4)
	x.is("6 [v=a/x@2<36] a1(x=v y=)\na 3 [x2/0@0 y3/1@0] asks [v=x:2-2] gives []\nb 12 [] asks [] gives []")
	x.handle(impl.MateEvBring, 3)
	x.is("6 [v=a/x@2<36] a1(x=v y=)\na 3 [x2/0@18 y3/1@0] asks [v=x:2-2] gives []\nb 12 [] asks [] gives []")
	x.tick(1, 4)
	x.tick(1, 4)
	x.settles(true, 2, 0)
	x.put(0, quick("y", ""))
	x.settles(false, 2, 0)
	for len(x.w.Flight) > 0 {
		x.handle(impl.MateEvLose, 0)
	}
	x.tick(1, 4)
	x.bring(1)
	for range 3 {
		x.tick(1, 4)
		x.settles(false, 2, 0)
	}
	for len(x.w.Flight) > 0 {
		x.handle(impl.MateEvLose, len(x.w.Flight)-1)
	}
	x.tick(1, 4)
	x.settles(true, 1, 0)
	x.is("20 [v=a/x@2<36] a2(y=)\na 10 [y4/0@0] asks [] gives [v=x:2-2]\nb 40 [] asks [] gives []")
	x.flies("told a 2; want y 1 * 1 1 0 3; back a v x 2; here a 2; here b 0; ")
	x.handle(impl.MateEvBring, 1)
	x.flies("told a 2; want y 1 * 1 1 0 3; here a 2; here b 0; gotback a v 2; ")
	x.handle(impl.MateEvBring, 3)
	x.is("20 [] a2(y=)\na 10 [y4/0@0] asks [] gives []\nb 40 [] asks [] gives []")
}

func TestMateWorldRates(t *testing.T) {
	for _, c := range []struct{ rates, clocks []int }{
		{nil, []int{2, 2, 2, 2}},
		{[]int{}, []int{2, 2, 2, 2}},
		{[]int{1}, []int{1, 2, 2, 2}},
		{[]int{4, 3}, []int{4, 3, 2, 2}},
		{[]int{1, 2, 3, 4}, []int{1, 2, 3, 4}},
		{[]int{4, 1, 4, 1, 3, 3}, []int{4, 1, 4, 1}},
		{[]int{0, 1, 4, 5}, []int{2, 1, 4, 2}},
		{[]int{-1, 4, math.MinInt, 3}, []int{2, 4, 2, 3}},
		{[]int{math.MaxInt, 8, 3, -4}, []int{2, 2, 3, 2}},
	} {
		x := newWorldTale(t, "a", "b", "c", "d")
		clocks := func() []int {
			var list []int
			for _, m := range x.w.Mates {
				list = append(list, m.Clock)
			}
			return list
		}
		x.tick(c.rates...)
		if !slices.Equal(clocks(), c.clocks) || x.w.Land.Time != 2 {
			t.Errorf("%v: %s", c.rates, tellWorld(x.w))
		}
		x.flies("here a 0; here b 0; here c 0; here d 0; ")
		x.calm(2, c.rates...)
		for i := range c.clocks {
			c.clocks[i] *= 3
		}
		if !slices.Equal(clocks(), c.clocks) || x.w.Land.Time != 6 {
			t.Errorf("%v: %s", c.rates, tellWorld(x.w))
		}
	}
}

// Kinds that are none, and places and mates that are not there.
func TestMateDoNothing(t *testing.T) {
	x := newWorldTale(t, "a", "b")
	x.put(0, quick("x", "v"))
	x.tick()
	numbers := []int{math.MinInt, -2, -1, 0, 1, 2, 3, 4, 300, math.MaxInt - 1, math.MaxInt}
	for _, kind := range []int{math.MinInt, -7, -1, 0, 8, 9, 14, math.MaxInt} {
		for _, a := range numbers {
			x.doesNot(impl.MateEvent{Kind: kind, A: a, B: 1, Wants: severalWants(), Rates: []int{1, 1}})
		}
	}
	for kind := impl.MateEvBring; kind <= impl.MateEvPut; kind++ {
		n := len(x.w.Mates)
		if kind <= impl.MateEvLose {
			n = len(x.w.Flight)
		}
		for _, a := range append(numbers, n) {
			if a < 0 || a >= n {
				x.doesNot(impl.MateEvent{Kind: kind, A: a, B: a, Wants: wantsCalled("z")})
			}
		}
	}
	if len(x.w.Flight) != 3 {
		t.Fatal(tellFlight(x.w))
	}
	// With an empty flight there is no place at all, and no other part of an event counts for a tick.
	x.handle(impl.MateEvLose, 2, 1, 0)
	for kind := impl.MateEvBring; kind <= impl.MateEvLose; kind++ {
		for _, a := range numbers {
			x.doesNot(impl.MateEvent{Kind: kind, A: a})
		}
	}
	for _, a := range numbers {
		time := x.w.Land.Time
		if x.do(impl.MateEvent{Kind: impl.MateEvTick, A: a, B: a, Wants: severalWants()}); x.w.Land.Time != time+2 {
			t.Error(a)
		}
	}
}

// Each kind of parcel is brought to the one that it is for; what is for a berth that is no mate, and what is no form, is gone.
func TestMateBringKinds(t *testing.T) {
	start := func() *worldTale {
		x := newWorldTale(t, "a", "b")
		x.put(0, quick("x", "v"))
		x.put(1, quick("y", "u"))
		x.calm(2)
		x.put(0)
		x.calm(1)
		for range 4 {
			x.tick()
		}
		x.w.Flight = nil
		return x
	}
	for _, c := range []struct{ text, want, flies string }{
		{"told b 9\n", "b: seen 9", ""},
		{"told b 2\nwant z 1 * 0 0 0 0\n", "b: seen 2", ""},
		{"told b 1\n", "", ""},
		{"told c 9\n", "", ""},
		{"asked b u y 8\n", "the book", "given b u y 8; "},
		{"asked b u z 8\n", "", ""},
		{"asked c u y 8\n", "", ""},
		{"given b u y 4\n", "", ""},
		{"given b u y 3\n", "", ""},
		{"given c u y 4\n", "", ""},
		{"back a v x 4\n", "the book", "gotback a v 4; "},
		{"back c w z 9\n", "", "gotback c w 9; "},
		{"gotback a v 4\n", "a: gives", ""},
		{"gotback a v 5\n", "", ""},
		{"gotback b v 4\n", "", ""},
		{"here a 1\n", "", ""},
		{"here c 7\n", "", ""},
		{"", "", ""},
		{"nothing", "", ""},
		{"here a 1", "", ""},
		{"here a 01\n", "", ""},
		{"told b 9\n\n", "", ""},
		{strings.Repeat("x", 100000), "", ""},
	} {
		x := start()
		before := x.w
		x.w.Flight = []string{c.text}
		x.bring(1)
		x.flies(c.flies)
		var changed []string
		if tellLand(x.w.Land) != tellLand(before.Land) {
			changed = append(changed, "the book")
		}
		for i, m := range x.w.Mates {
			if old := before.Mates[i]; len(m.Gives) != len(old.Gives) {
				changed = append(changed, m.Name+": gives")
			} else if m.Seen != old.Seen {
				changed = append(changed, fmt.Sprint(m.Name, ": seen ", m.Seen))
			} else if tellMate(m) != tellMate(old) {
				changed = append(changed, m.Name)
			}
		}
		if got := strings.Join(changed, ", "); got != c.want {
			t.Errorf("%.40q changes %q, not %q: %s", c.text, got, c.want, tellWorld(x.w))
		}
	}
	// What is given is a lease of the one that asked for it.
	x := newWorldTale(t, "a", "b")
	x.put(1, quick("y", "u"))
	x.calm(1)
	x.tick()
	x.w.Flight = []string{"given a u y 4\n", "given b u y 4\n"}
	x.bring(1)
	x.is("4 [] b1(y=u)\na 4 [] asks [] gives []\nb 4 [y1/1@0] asks [u=y:4-4] gives []")
	x.bring(1)
	x.is("4 [] b1(y=u)\na 4 [] asks [] gives []\nb 4 [y1/1@20] asks [u=y:4-4] gives []")
}

// What is taken out, doubled or lost is what is at its place, and all else stays in its order.
func TestMateFlightPlaces(t *testing.T) {
	texts := []string{"none 0", "none 1", "", "none 3", "none 4"}
	for place := range texts {
		for kind, want := range map[int][]string{
			impl.MateEvBring:  slices.Concat(texts[:place], texts[place+1:]),
			impl.MateEvLose:   slices.Concat(texts[:place], texts[place+1:]),
			impl.MateEvDouble: slices.Concat(texts, texts[place:place+1]),
		} {
			x := newWorldTale(t, "a")
			x.w.Flight = slices.Clone(texts)
			x.handle(kind, place)
			if !slices.Equal(x.w.Flight, want) {
				t.Errorf("kind %d of place %d: %q", kind, place, x.w.Flight)
			}
		}
	}
}

// filled is a flight of so many texts that are no forms.
func filled(n int) []string { return slices.Repeat([]string{"full"}, n) }

// At the limit of the flight: what has no room is left out, the last of it first.
func TestMateFlightIsFull(t *testing.T) {
	all := []string{"told a 1\nwant x 1 v 1 1 0 3\n", "asked a v x 4\n", "here a 1\n", "here b 0\n"}
	for n, want := range map[int]int{0: 4, 295: 4, 296: 4, 297: 3, 298: 2, 299: 1, 300: 0} {
		x := newWorldTale(t, "a", "b")
		x.put(0, quick("x", "v"))
		x.calm(1)
		x.w.Flight = filled(n)
		x.tick()
		if !slices.Equal(x.w.Flight, append(filled(n), all[:want]...)) {
			t.Errorf("%d: %q", n, x.w.Flight[n:])
		}
		// It is the same for the mates: what was not sent was asked for all the same.
		x.is("4 [] a1(x=v)\na 4 [x1/1@0] asks [v=x:4-4] gives []\nb 4 [] asks [] gives []")
	}
	for n, want := range map[int]int{1: 2, 298: 299, 299: 300, 300: 300} {
		x := newWorldTale(t, "a")
		x.w.Flight = filled(n)
		x.handle(impl.MateEvDouble, n-1)
		if len(x.w.Flight) != want {
			t.Errorf("%d: %d", n, len(x.w.Flight))
		}
	}
	// What is answered has the room of what was brought.
	x := newWorldTale(t, "a")
	x.w.Flight = append(filled(299), "back a v x 1\n")
	x.handle(impl.MateEvBring, 299)
	if !slices.Equal(x.w.Flight, append(filled(299), "gotback a v 1\n")) {
		t.Errorf("%q", x.w.Flight[298:])
	}
	// One more than the flight may have is no world.
	x.w.Flight = filled(301)
	checkWorldOk(t, "301 texts", x.w, false)
	// A round brings all that there is, and has room for all that is answered.
	x = newWorldTale(t, "a")
	x.put(0, quick("x", "v"))
	x.w.Flight = append(filled(298), "back a v x 1\n", "back a u x 1\n")
	x.calm(1)
	x.flies("")
	x.is("2 [] a1(x=v)\na 2 [] asks [] gives []")
	if x.w.Mates[0].Known {
		t.Error("it was told without room")
	}
	x.calm(6)
	x.settles(true, 1)
}

// Falls of a mate and of its machine, by B, while a hold is had; and rises.
func TestMateWorldFalls(t *testing.T) {
	start := newWorldTale(t, "a", "b")
	start.put(0, quick("x", "v"), quick("y", ""))
	start.put(1, quick("z", ""))
	start.calm(8)
	start.settles(true, 2, 1)
	const book, other = "16 [v=a/x@16<48] a1(x=v y=) b1(z=)\n", "\nb 16 [z4/0@0] asks [] gives []"
	for _, b := range []int{0, 1, -1, 2, math.MinInt, math.MaxInt} {
		x := *start
		x.do(impl.MateEvent{Kind: impl.MateEvFall, A: 0, B: b})
		if b == 0 {
			x.is(book + "-a 16 [x4/0@32 y4/0@0] asks [] gives []" + other)
			x.settles(false, 2, 1)
		} else {
			x.is(book + "-a 16 [x2/0@32] asks [] gives []" + other)
			x.settles(false, 0, 1)
		}
		x.do(impl.MateEvent{Kind: impl.MateEvFall, A: 0})
		x.handle(impl.MateEvRise, 0)
		x.calm(8)
		x.settles(true, 2, 1)
		// The last mate, and one that is up already.
		x.do(impl.MateEvent{Kind: impl.MateEvFall, A: 1, B: b})
		x.doesNot(impl.MateEvent{Kind: impl.MateEvRise, A: 0})
		x.handle(impl.MateEvRise, 1)
		x.calm(8)
		x.settles(true, 2, 1)
	}
	// Nobody raises it: what has a hold lives as long as its lease, all else on.
	x := *start
	x.do(impl.MateEvent{Kind: impl.MateEvFall, A: 0})
	x.calm(6)
	x.settles(false, 2, 1)
	x.calm(1)
	x.settles(false, 1, 1)
	x.is("30 [v=a/x@16<48] a1(x=v y=) b1(z=)\n-a 30 [x2/0@32 y4/0@0] asks [] gives []\nb 30 [z4/0@0] asks [] gives []")
	// Its hold is wanted elsewhere meanwhile, and is given there when the book's time is over it.
	x.put(0, quick("y", ""))
	x.put(1, quick("x", "v"), quick("z", ""))
	x.calm(11)
	x.settles(false, 1, 1)
	x.calm(1)
	x.settles(false, 1, 2)
	x.handle(impl.MateEvRise, 0)
	x.calm(8)
	x.settles(true, 1, 2)
	if runs := x.w.Mates[0].Runs; len(runs) != 1 || runs[0].Falls != 0 {
		t.Errorf("%+v", runs)
	}
}

// MateEvPut, with each code that a put into an ok book can have.
func TestMateWorldPut(t *testing.T) {
	x := newWorldTale(t, "a", "b")
	x.put(0, quick("x", "v"))
	x.put(1)
	x.is("0 [] a1(x=v) b1()\na 0 [] asks [] gives []\nb 0 [] asks [] gives []")
	x.put(0, quick("x", "v"), quick("y", "u"))
	if x.w.Land.Places[0].Seen != 2 {
		t.Error(tellWorld(x.w))
	}
	put := func(at int, wants ...impl.MateWant) impl.MateEvent {
		return impl.MateEvent{Kind: impl.MateEvPut, A: at, B: 1, Wants: wants, Rates: []int{1}}
	}
	x.doesNot(put(0, impl.MateWant{}))
	x.doesNot(put(0, quick("y", ""), quick("x", "")))
	x.doesNot(put(0, quick("x", "*")))
	x.doesNot(put(0, slices.Repeat(severalWants(), 3)...))
	x.doesNot(put(1, quick("x", "v")))
	x.doesNot(put(1, quick("z", ""), quick("zz", "u")))
	for _, c := range allWantChanges() {
		w := quick("k", "k")
		c.change(&w)
		if e := put(1, w); !modelWantsOk(e.Wants) {
			x.doesNot(e)
		}
	}
	x.w.Land.Places[1].Seen = impl.MateMaxVersion
	x.doesNot(put(1, quick("z", "")))
	x.put(0)
	x.w.Land.Places[1].Seen = impl.MateMaxVersion - 1
	x.put(1, quick("x", "v"))
	if tellLand(x.w.Land) != "0 [] a3() b1000000(x=v)" {
		t.Error(tellLand(x.w.Land))
	}
	// As many places as may be, of berths that are no mates.
	x.w.Land.Places = numbered(4, func(name string) impl.MatePlace { return impl.MatePlace{Berth: name, Seen: 1} })
	x.doesNot(put(0))
	x.doesNot(put(1, quick("x", "v")))
	x.w.Land.Places = x.w.Land.Places[1:]
	x.put(1, quick("x", "v"))
	if tellLand(x.w.Land) != "0 [] b1(x=v) n0011() n0021() n0031()" {
		t.Error(tellLand(x.w.Land))
	}
}

// How many rounds there are.
func TestMateCalmRounds(t *testing.T) {
	w := impl.MateNewWorld([]string{"a"})
	w.Flight = []string{"told a 1\n", "none"}
	for rounds, want := range map[int]int{math.MinInt: 0, -1000: 0, -1: 0, 0: 0, 1: 1, 2: 2, 999: 999, 1000: 1000, 1001: 1000, 5000: 1000, math.MaxInt: 1000} {
		calm := impl.MateCalm(w, rounds, []int{3})
		if calm.Mates[0].Clock != 3*want || calm.Land.Time != 2*want || calm.Mates[0].Known != (want > 0) {
			t.Errorf("%d rounds: %s", rounds, tellWorld(calm))
		}
		if want == 0 && !sameWorld(calm, w) || want > 0 && len(calm.Flight) > 0 {
			t.Errorf("%d rounds: %q", rounds, calm.Flight)
		}
	}
	// In a round all is brought that the tick sends, and what is answered to it; what was in flight is brought first.
	x := newWorldTale(t, "a", "b")
	x.put(0, quick("x", "v"))
	x.w.Flight = []string{"told b 3\nwant x 1 * 0 0 0 0\n"}
	x.calm(1)
	x.is("2 [] a1(x=v)\na 2 [] asks [] gives []\nb 2 [] asks [] gives []")
	x.calm(1)
	x.is("4 [v=a/x@4<36] a1(x=v)\na 4 [x1/1@20] asks [v=x:4-4] gives []\nb 4 [x1/0@0] asks [] gives []")
	x.calm(1)
	x.is("6 [v=a/x@4<36] a1(x=v)\na 6 [x3/1@20] asks [v=x:4-4] gives []\nb 6 [x3/0@0] asks [] gives []")
	x.calm(2)
	x.is("10 [v=a/x@10<42] a1(x=v)\na 10 [x4/0@26] asks [v=x:4-10] gives []\nb 10 [x4/0@0] asks [] gives []")
	x.settles(false, 1, 1)
}

// A hold moves from one berth to another with each pair of rates: it is given back, or, where the berth that has it hears nothing, its lease is over.
func TestMateHoldMoves(t *testing.T) {
	for one := 1; one <= 4; one++ {
		for other := 1; other <= 4; other++ {
			for _, deaf := range []bool{false, true} {
				x := newWorldTale(t, "a", "b")
				x.put(0, quick("x", "v"))
				x.calm(6, one, other)
				x.settles(true, 1, 0)
				x.put(0)
				x.put(1, quick("x", "v"))
				round := 0
				for ; len(x.w.Mates[1].Runs) == 0 || !modelAlive(x.w.Mates[1].Runs[0]); round++ {
					if round > 40 {
						t.Fatal(tellWorld(x.w))
					}
					x.tick(one, other)
					for n := 2 * len(x.w.Flight); n > 0 && len(x.w.Flight) > 0; n-- {
						if deaf && strings.Contains(x.w.Flight[0], " a ") {
							x.handle(impl.MateEvLose, 0)
						} else {
							x.bring(1)
						}
						checkOneHolder(t, x.w)
					}
				}
				if deaf && (round < 12 || round > 21) || !deaf && (round < 5 || round > 9) {
					t.Errorf("rates %d and %d, deaf: %v: %d rounds", one, other, deaf, round)
				}
				x.settles(false, 0, 1)
				x.calm(8, one, other)
				x.settles(true, 0, 1)
			}
		}
	}
}

// A hold that goes from one copy to another of the same berth: the second waits until the first is stopped and the hold is back.
func TestMateHoldMovesToAnotherCopy(t *testing.T) {
	x := newWorldTale(t, "a")
	x.put(0, quick("x", "v"))
	x.calm(5)
	x.is("10 [v=a/x@10<42] a1(x=v)\na 10 [x4/0@26] asks [v=x:4-10] gives []")
	x.put(0, quick("y", "v"))
	x.calm(2)
	x.is("14 [v=a/x@10<42] a2(y=v)\na 14 [x6/3@26 y1/1@0] asks [v=y:14-14] gives []")
	x.calm(3)
	x.is("20 [] a2(y=v)\na 20 [y2/0@0] asks [] gives []")
	x.calm(1)
	x.is("22 [v=a/y@22<54] a2(y=v)\na 22 [y2/0@38] asks [v=y:22-22] gives []")
	x.calm(2)
	x.settles(true, 1)
	// The same copy in another version is stopped, and begins anew.
	next := quick("y", "v")
	next.Version = 2
	x.put(0, next)
	x.calm(5)
	x.is("36 [] a3(y=v)\na 36 [y1/1@0] asks [] gives []")
	x.calm(4)
	x.settles(true, 1)
	if x.w.Mates[0].Runs[0].Want.Version != 2 {
		t.Error(tellWorld(x.w))
	}
}

// A copy that dies is started again, later each time, and has its hold all the while.
func TestMateCopyDies(t *testing.T) {
	x := newWorldTale(t, "a")
	dying := quick("x", "v")
	dying.Dies = 2
	x.put(0, dying)
	var settled []int
	for round := range 40 {
		x.calm(1)
		checkOneHolder(t, x.w)
		if impl.MateSettled(x.w) {
			settled = append(settled, round)
			if run := x.w.Mates[0].Runs[0]; run.Falls != len(settled)/2 && run.Falls != (len(settled)-1)/2 {
				t.Errorf("round %d: %s", round, tellWorld(x.w))
			}
		}
	}
	if !slices.Equal(settled, []int{3, 4, 8, 9, 15, 16, 26, 27}) {
		t.Error(settled)
	}
}

// Parcels that come late, twice, out of order, or never.
func TestMateParcelsAstray(t *testing.T) {
	x := newWorldTale(t, "a")
	x.put(0, quick("x", "v"))
	x.tick()
	late := x.w.Flight[0]
	x.put(0, quick("y", "v"))
	x.tick()
	x.handle(impl.MateEvBring, 2)
	x.flies("told a 1; want x 1 v 1 1 0 3; here a 0; here a 0; ")
	// The older word comes behind the newer one, and counts no more.
	x.handle(impl.MateEvDouble, 0)
	x.bring(4)
	x.flies("")
	if m := x.w.Mates[0]; m.Seen != 2 || m.Wants[0].Copy != "y" {
		t.Errorf("%+v", m)
	}
	// What is asked for comes twice, and then an older ask behind a newer one: the grant is of the last.
	x.tick()
	x.flies("told a 2; want y 1 v 1 1 0 3; asked a v y 6; here a 2; ")
	x.handle(impl.MateEvDouble, 1)
	x.handle(impl.MateEvDouble, 1)
	x.handle(impl.MateEvBring, 4)
	x.flies("told a 2; want y 1 v 1 1 0 3; asked a v y 6; here a 2; asked a v y 6; given a v y 6; ")
	x.handle(impl.MateEvLose, 4)
	x.is("6 [v=a/y@6<38] a2(y=v)\na 6 [y1/1@0] asks [v=y:6-6] gives []")
	x.tick()
	x.tick()
	x.tick()
	at := slices.Index(x.w.Flight, "asked a v y 12\n")
	if at < 0 {
		t.Fatal(tellFlight(x.w))
	}
	x.handle(impl.MateEvBring, at)
	x.is("12 [v=a/y@12<44] a2(y=v)\na 12 [y2/0@0] asks [v=y:6-12] gives []")
	x.handle(impl.MateEvBring, slices.Index(x.w.Flight, "asked a v y 6\n"))
	x.is("12 [v=a/y@12<44] a2(y=v)\na 12 [y2/0@0] asks [v=y:6-12] gives []")
	// What was given for the first ask counts yet, and less than for the last one; then it is too late.
	x.w.Flight = []string{"given a v y 6\n", "given a v y 12\n", "given a v y 6\n", late}
	x.bring(1)
	x.is("12 [v=a/y@12<44] a2(y=v)\na 12 [y2/0@22] asks [v=y:6-12] gives []")
	x.bring(1)
	x.is("12 [v=a/y@12<44] a2(y=v)\na 12 [y2/0@28] asks [v=y:6-12] gives []")
	x.bring(2)
	x.is("12 [v=a/y@12<44] a2(y=v)\na 12 [y2/0@28] asks [v=y:6-12] gives []")
	// What is never answered is asked for anew, and given back anew.
	for range 9 {
		x.tick()
		x.w.Flight = nil
	}
	x.is("30 [v=a/y@12<44] a2(y=v)\na 30 [y2/0@28] asks [v=y:6-30] gives []")
	x.put(0)
	x.calm(1)
	for range 3 {
		x.tick()
		x.flies("told a 3; back a v y 30; here a 3; ")
		x.w.Flight = nil
	}
	x.calm(1)
	x.is("40 [] a3()\na 40 [] asks [] gives []")
	x.settles(true, 0)
}

// A berth whose parcels are all lost lives by its lease, and not longer; when it is heard again it is given the hold anew.
func TestMateBerthUnheard(t *testing.T) {
	for rate := 1; rate <= 4; rate++ {
		x := newWorldTale(t, "a")
		x.put(0, quick("x", "v"), quick("y", ""))
		x.calm(12, rate)
		x.settles(true, 2)
		at := x.w.Mates[0].Asks[0].At
		for clock := x.w.Mates[0].Clock; clock <= at+12; clock = x.w.Mates[0].Clock {
			if alive := modelAlive(x.w.Mates[0].Runs[0]); !alive {
				t.Fatalf("rate %d: %s", rate, tellWorld(x.w))
			}
			x.tick(rate)
			x.w.Flight = nil
		}
		x.settles(false, 1)
		for range 40 {
			x.tick(rate)
			x.w.Flight = nil
			x.settles(false, 1)
		}
		if g := x.w.Land.Grants; len(g) != 1 || g[0].Until > x.w.Land.Time {
			t.Errorf("rate %d: %s", rate, tellWorld(x.w))
		}
		x.calm(10, rate)
		x.settles(true, 2)
	}
}

// The book's time and the clocks at their ends.
func TestMateWorldEnds(t *testing.T) {
	x := newWorldTale(t, "a", "b")
	x.put(0, quick("x", "v"))
	x.calm(6)
	x.settles(true, 1, 0)
	x.w.Land.Time = 2*impl.MateMaxClock - 2
	x.tick()
	if x.w.Land.Time != 2*impl.MateMaxClock || !strings.HasPrefix(tellFlight(x.w), "told a 1; ") {
		t.Error(tellWorld(x.w), tellFlight(x.w))
	}
	x.w.Flight = nil
	x.tick()
	x.flies("asked a v x 16; here a 1; here b 0; ")
	// The mates go on, and what is asked for is given; what is told no more is not heard.
	x.calm(9)
	x.put(1, quick("y", ""))
	x.calm(9)
	if x.w.Land.Time != 2*impl.MateMaxClock {
		t.Error(tellWorld(x.w))
	}
	x.settles(false, 1, 0)
	// A clock that ends takes its machine with it, and the other mates go on.
	x = newWorldTale(t, "a", "b")
	x.put(0, quick("x", "v"))
	x.put(1, quick("y", ""))
	x.w.Mates[0].Clock = impl.MateMaxClock - 24
	x.calm(6, 4, 1)
	x.settles(true, 1, 1)
	x.calm(1, 4, 1)
	x.settles(false, 0, 1)
	if m := x.w.Mates[0]; m.Up || m.Clock != impl.MateMaxClock || len(m.Runs) != 1 {
		t.Error(tellWorld(x.w))
	}
	x.doesNot(impl.MateEvent{Kind: impl.MateEvRise, A: 0})
	x.tick()
	x.flies("told a 1; want x 1 v 1 1 0 3; told b 1; want y 1 * 1 1 0 3; here b 1; ")
	x.do(impl.MateEvent{Kind: impl.MateEvFall, A: 0, B: 1})
	if len(x.w.Mates[0].Runs) != 0 {
		t.Error(tellWorld(x.w))
	}
}

// holder is a mate with these runs, all of which have leases that are long enough.
func holder(name string, runs ...impl.MateRun) impl.Mate {
	return impl.Mate{Name: name, Up: true, Clock: 10, Runs: runs}
}

func runOf(copy, hold string, state int) impl.MateRun {
	r := impl.MateRun{Want: wantOf(copy, hold), State: state}
	if hold != "" {
		r.Until = 20
	}
	return r
}

// Two runs that are alive with one hold, on one mate and on two.
func TestMateSafe(t *testing.T) {
	for one := impl.MatePulling; one <= impl.MateStopping; one++ {
		for other := impl.MatePulling; other <= impl.MateStopping; other++ {
			alive := func(state int) bool { return modelAlive(impl.MateRun{State: state}) }
			both := alive(one) && alive(other)
			for what, c := range map[string]struct {
				w    impl.MateWorld
				safe bool
			}{
				"on one mate":              {impl.MateWorld{Mates: []impl.Mate{holder("a", runOf("x", "v", one), runOf("y", "v", other))}}, !both},
				"on two":                   {impl.MateWorld{Mates: []impl.Mate{holder("a", runOf("x", "v", one)), holder("b", runOf("x", "v", other))}}, !both},
				"on the first and last":    {impl.MateWorld{Mates: []impl.Mate{holder("a", runOf("x", "v", one)), holder("b"), holder("c", runOf("z", "u", 4)), holder("d", runOf("w", "", 4), runOf("x", "v", other))}}, !both},
				"two holds":                {impl.MateWorld{Mates: []impl.Mate{holder("a", runOf("x", "v", one), runOf("y", "u", other)), holder("b", runOf("x", "t", one))}}, true},
				"no holds":                 {impl.MateWorld{Mates: []impl.Mate{holder("a", runOf("x", "", one), runOf("y", "", other)), holder("b", runOf("x", "", one))}}, true},
				"one with none":            {impl.MateWorld{Mates: []impl.Mate{holder("a", runOf("x", "v", one)), holder("b", runOf("x", "", other))}}, true},
				"a beginning of the other": {impl.MateWorld{Mates: []impl.Mate{holder("a", runOf("x", "v", one)), holder("b", runOf("x", "vv", other))}}, true},
			} {
				checkWorldOk(t, what, c.w, true)
				checkAsked(t, c.w)
				if impl.MateSafe(c.w) != c.safe {
					t.Errorf("%s, in %d and %d: %v", what, one, other, !c.safe)
				}
			}
		}
	}
	// Also while a mate is down.
	down := holder("b", runOf("x", "v", impl.MateReady))
	down.Up = false
	w := impl.MateWorld{Mates: []impl.Mate{holder("a", runOf("x", "v", impl.MateReady)), down}}
	if checkAsked(t, w); impl.MateSafe(w) {
		t.Error("it is safe while a mate is down")
	}
}

func TestMateSettled(t *testing.T) {
	ready := func(copy, hold string) impl.MateRun { return runOf(copy, hold, impl.MateReady) }
	place := func(berth string, wants ...impl.MateWant) impl.MatePlace {
		return impl.MatePlace{Berth: berth, Seen: 1, Wants: wants}
	}
	start := func() impl.MateWorld {
		return impl.MateWorld{
			Land:  impl.MateLand{Places: []impl.MatePlace{place("a", wantOf("x", "v"), wantOf("y", "")), place("b"), place("q", wantOf("z", ""))}},
			Mates: []impl.Mate{holder("a", ready("x", "v"), ready("y", "")), holder("b"), holder("c")},
		}
	}
	for _, c := range []struct {
		what    string
		settled bool
		change  func(w *impl.MateWorld)
	}{
		{"as it is", true, func(w *impl.MateWorld) {}},
		{"the first is down", false, func(w *impl.MateWorld) { w.Mates[0].Up = false }},
		{"one with nothing is down", false, func(w *impl.MateWorld) { w.Mates[1].Up = false }},
		{"one without a place is down", false, func(w *impl.MateWorld) { w.Mates[2].Up = false }},
		{"with falls", true, func(w *impl.MateWorld) { w.Mates[0].Runs[0].Falls, w.Mates[0].Runs[1].Falls = 1, 1000 }},
		{"with ticks to go", true, func(w *impl.MateWorld) { w.Mates[0].Runs[1].Left = 5 }},
		{"a run too few", false, func(w *impl.MateWorld) { w.Mates[0].Runs = w.Mates[0].Runs[:1] }},
		{"the first run too few", false, func(w *impl.MateWorld) { w.Mates[0].Runs = w.Mates[0].Runs[1:] }},
		{"no run", false, func(w *impl.MateWorld) { w.Mates[0].Runs = nil }},
		{"a run too many", false, func(w *impl.MateWorld) { w.Mates[0].Runs = append(w.Mates[0].Runs, ready("z", "")) }},
		{"a run where nothing is wanted", false, func(w *impl.MateWorld) { w.Mates[1].Runs = []impl.MateRun{ready("x", "")} }},
		{"a run without a place", false, func(w *impl.MateWorld) { w.Mates[2].Runs = []impl.MateRun{ready("x", "")} }},
		{"a run that pulls without a place", false, func(w *impl.MateWorld) { w.Mates[2].Runs = []impl.MateRun{runOf("x", "", impl.MatePulling)} }},
		{"another version", false, func(w *impl.MateWorld) { w.Mates[0].Runs[1].Want.Version++ }},
		{"another grace", false, func(w *impl.MateWorld) { w.Mates[0].Runs[1].Want.Grace++ }},
		{"another hold", false, func(w *impl.MateWorld) { w.Mates[0].Runs[0].Want.Hold = "u" }},
		{"another copy", false, func(w *impl.MateWorld) { w.Mates[0].Runs[1].Want.Copy = "yy" }},
		{"no places at all", false, func(w *impl.MateWorld) { w.Land.Places = nil }},
		{"no places and no runs", true, func(w *impl.MateWorld) { w.Land.Places, w.Mates[0].Runs = nil, nil }},
		{"places of no mates alone", true, func(w *impl.MateWorld) { w.Land.Places, w.Mates[0].Runs = w.Land.Places[2:], nil }},
		{"something in flight", true, func(w *impl.MateWorld) { w.Flight = filled(300) }},
		{"a mate that knows other wants", true, func(w *impl.MateWorld) {
			w.Mates[0].Known, w.Mates[0].Wants = true, []impl.MateWant{wantOf("k", "")}
		}},
		{"a book that wants more", false, func(w *impl.MateWorld) {
			w.Land.Places[1].Wants = []impl.MateWant{wantOf("x", "")}
		}},
	} {
		w := start()
		c.change(&w)
		checkWorldOk(t, c.what, w, true)
		checkAsked(t, w)
		if impl.MateSettled(w) != c.settled {
			t.Errorf("%s: %v", c.what, !c.settled)
		}
	}
	for state := impl.MatePulling; state <= impl.MateStopping; state++ {
		for at := range 2 {
			w := start()
			w.Mates[0].Runs[at].State = state
			checkAsked(t, w)
			if impl.MateSettled(w) != (state == impl.MateReady) {
				t.Errorf("run %d in state %d", at, state)
			}
		}
	}
}

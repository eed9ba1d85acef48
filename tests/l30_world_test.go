package tests

import (
	"fmt"
	"math"
	"math/rand"
	"slices"
	"strings"
	"testing"

	"loop.example/wharffleet/impl"
)

func TestFleetWorldNumbers(t *testing.T) {
	got := []int{impl.FleetTick, impl.FleetBring, impl.FleetLose, impl.FleetDouble, impl.FleetListen, impl.FleetMiss, impl.FleetFall, impl.FleetRise, impl.FleetWish, impl.FleetDrain, impl.FleetStewards, impl.FleetLand}
	if !slices.Equal(got, []int{1, 2, 3, 4, 5, 6, 7, 8, 9, 10, 11, 12}) {
		t.Error(got)
	}
}

func TestFleetNew(t *testing.T) {
	berths := []impl.PilotBerth{
		{Name: "a", Zone: "east", Marks: []string{"color=red", "ssd"}, Room: 7, Hold: 8},
		{Name: "b", Zone: "west", Room: 1000},
	}
	w := impl.FleetNew(berths)
	want := impl.FleetWorld{
		Stew:   impl.StewBook{Berths: []impl.StewBerth{{Name: "a"}, {Name: "b"}}},
		Berths: berths,
		Mates:  impl.MateWorld{Mates: []impl.Mate{{Name: "a", Up: true}, {Name: "b", Up: true}}},
		Heard:  []impl.FleetHeard{{Berth: "a"}, {Berth: "b"}},
	}
	if !sameWharf(w, want) {
		t.Errorf("%+v, not %+v", w, want)
	}
	checkWharf(t, "a new one", w, "")
	checkOwnMemory(t, []any{berths}, []any{w})
	checkOwnTexts(t, []any{berths}, []any{w})
	if !impl.FleetSafe(w) || !impl.FleetSettled(w) || len(impl.FleetWaits(w)) > 0 {
		t.Error("a new one is not safe, or not settled, or something waits")
	}
}

// checkFleetNew holds FleetNew against the second reading, and whether there is a fleet.
func checkFleetNew(t *testing.T, what string, berths []impl.PilotBerth, is bool) {
	t.Helper()
	w := impl.FleetNew(berths)
	if !sameWharf(w, modelNewWharf(berths)) {
		t.Errorf("%s: %+v, not %+v", what, w, modelNewWharf(berths))
	}
	if impl.FleetValid(w) != is || is != (len(w.Berths) > 0) || !is && !sameWharf(w, impl.FleetWorld{}) {
		t.Errorf("%s: %+v", what, w)
	}
}

func TestFleetNewOfBerths(t *testing.T) {
	list := func(names ...string) []impl.PilotBerth { return emptyWharf(names...).Berths }
	long := strings.Repeat("z", 20)
	for _, names := range [][]string{{"a"}, {"a", "b"}, {"a", "b", "c"}, {"a", "b", "c", "d"}, {"-", "0", "a", "a-"}, {long}, {"z", long}} {
		checkFleetNew(t, fmt.Sprint(names), list(names...), true)
	}
	for _, names := range [][]string{
		nil, {}, {"a", "b", "c", "d", "e"}, {"a", "b", "c", "d", "e", "f"}, {"b", "a"}, {"a", "c", "b"}, {"a", "a"}, {"a", "b", "b"}, {"a", "b", "a"},
		{""}, {"", "a"}, {long + "z"}, {"A"}, {"a b"}, {"a", "b\n"}, {"a\x00"}, {"\x7f"}, {"\xff"}, {"ä"}, // none for the mates, or none for the pilot alone
		{"x_y"}, {"_"}, {"a", "b_"}, // none for the stewards
	} {
		checkFleetNew(t, fmt.Sprintf("%q", names), list(names...), false)
	}
	if w := impl.FleetNew(slices.Repeat(list("a"), 1000000)); !sameWharf(w, impl.FleetWorld{}) {
		t.Errorf("far too many: %d berths", len(w.Berths))
	}
}

func TestFleetNewOfPartsOfBerths(t *testing.T) {
	marks := strings.Fields("a b=1 c d e f g h i j k")
	for what, c := range map[string]struct {
		change func(b *impl.PilotBerth)
		is     bool
	}{
		"as it is":           {func(b *impl.PilotBerth) {}, true},
		"closed":             {func(b *impl.PilotBerth) { b.Closed = true }, false},
		"no zone":            {func(b *impl.PilotBerth) { b.Zone = "" }, false},
		"a zone with a byte": {func(b *impl.PilotBerth) { b.Zone = "_" }, true},
		"a long zone":        {func(b *impl.PilotBerth) { b.Zone = strings.Repeat("z", 20) }, true},
		"too long a zone":    {func(b *impl.PilotBerth) { b.Zone = strings.Repeat("z", 21) }, false},
		"no such zone":       {func(b *impl.PilotBerth) { b.Zone = "East" }, false},
		"no room":            {func(b *impl.PilotBerth) { b.Room = 0 }, true},
		"all room":           {func(b *impl.PilotBerth) { b.Room = 1000 }, true},
		"room below":         {func(b *impl.PilotBerth) { b.Room = -1 }, false},
		"room above":         {func(b *impl.PilotBerth) { b.Room = 1001 }, false},
		"least room":         {func(b *impl.PilotBerth) { b.Room = math.MinInt }, false},
		"greatest room":      {func(b *impl.PilotBerth) { b.Room = math.MaxInt }, false},
		"no hold":            {func(b *impl.PilotBerth) { b.Hold = 0 }, true},
		"all hold":           {func(b *impl.PilotBerth) { b.Hold = 1000 }, true},
		"hold below":         {func(b *impl.PilotBerth) { b.Hold = -1 }, false},
		"hold above":         {func(b *impl.PilotBerth) { b.Hold = 1001 }, false},
		"ten marks":          {func(b *impl.PilotBerth) { b.Marks = marks[:10] }, true},
		"eleven marks":       {func(b *impl.PilotBerth) { b.Marks = marks }, false},
		"marks in disorder":  {func(b *impl.PilotBerth) { b.Marks = []string{"b", "a"} }, false},
		"a mark twice":       {func(b *impl.PilotBerth) { b.Marks = []string{"a", "a"} }, false},
		"a name twice":       {func(b *impl.PilotBerth) { b.Marks = []string{"a", "a=1"} }, false},
		"no mark":            {func(b *impl.PilotBerth) { b.Marks = []string{"a="} }, false},
	} {
		for at := range 3 {
			berths := threeBerths().Berths
			c.change(&berths[at])
			checkFleetNew(t, fmt.Sprintf("%s, at %d", what, at), berths, c.is)
		}
	}
}

// does is an event by which the fleet is this behind it, held against the second reading, too.
func does(t *testing.T, what string, w impl.FleetWorld, e impl.FleetEvent, want impl.FleetWorld) {
	t.Helper()
	if got := checkWharfDone(t, what, w, e, noNote); !sameWharf(got, want) {
		t.Errorf("%s: by %+v it is %+v, not %+v", what, e, got, want)
	}
}

// farPlaces are those next to the ends of a list, outside it, and the farthest.
func farPlaces(n int) []int { return []int{-1, -2, n, n + 1, math.MinInt, math.MaxInt} }

// knownWharf has three berths of which the first knows what it is to run, and the second is down.
func knownWharf() impl.FleetWorld {
	w := withPlace(webAt("1@a:0 2@a:1 3@c:2"), "a", 4, webWant(1, 0), webWant(2, 1))
	w.Mates.Mates[0] = impl.Mate{Name: "a", Up: true, Clock: 50, Known: true, Seen: 3, Wants: []impl.MateWant{webWant(1, 0)}}
	w.Mates.Mates[1] = impl.Mate{Name: "b", Clock: 20}
	w.Mates.Mates[2] = impl.Mate{Name: "c", Up: true, Clock: 30, Seen: 9}
	return w
}

// A tick has what is told and sent fly, and then each mate that is up tell what it is behind that.
func TestFleetDoTick(t *testing.T) {
	w := knownWharf()
	w.Reports = []impl.FleetReport{{Berth: "nowhere", Seen: 7}}
	want := plainWharf(w)
	want.Mates = modelEvent(w.Mates, impl.MateEvent{Kind: 1, Rates: []int{1, 4, 3}}, noNote)
	want.Reports = []impl.FleetReport{{Berth: "nowhere", Seen: 7}, reportOf("a", 3, "web-1/3/1"), {Berth: "c"}}
	does(t, "a tick", w, impl.FleetEvent{Kind: impl.FleetTick, Rates: []int{1, 4, 3}}, want)
	got := impl.FleetDo(w, impl.FleetEvent{Kind: impl.FleetTick, Rates: []int{1, 4, 3}})
	if flight := tellFlight(got.Mates); flight != "told a 4; want web-1 3 v-web-0 1 2 0 4; want web-2 3 v-web-1 1 2 0 4; asked a v-web-0 web-1 51; here a 3; here c 9; " {
		t.Error(flight)
	}
	// What else the event has counts for nothing.
	does(t, "a tick with more", w, impl.FleetEvent{Kind: impl.FleetTick, A: 7, B: -7, Rates: []int{1, 4, 3}, Wish: impl.StewService{Name: "web"}, Needs: impl.FleetKind{Rank: 7}}, want)
	// Heard and the stewards' book do not hang on it.
	if got.Mates.Land.Time != 2 || got.Heard[0].Time != 0 || got.Stew.Now != w.Stew.Now {
		t.Errorf("%+v", got)
	}
}

func TestFleetDoTickRates(t *testing.T) {
	for _, c := range []struct{ rates, clocks []int }{
		{nil, []int{2, 2, 2}}, {[]int{}, []int{2, 2, 2}}, {[]int{1}, []int{1, 2, 2}}, {[]int{4, 3}, []int{4, 3, 2}}, {[]int{1, 2, 3}, []int{1, 2, 3}}, {[]int{4, 4, 4, 1, 1}, []int{4, 4, 4}},
		{[]int{0, 5, -1}, []int{2, 2, 2}}, {[]int{0, 4}, []int{2, 4, 2}}, {[]int{math.MinInt, math.MaxInt, 1}, []int{2, 2, 1}}, {slices.Repeat([]int{3}, 100000), []int{3, 3, 3}},
	} {
		w := threeBerths()
		w.Mates.Mates[1].Up = false
		got := checkWharfDone(t, "rates", w, impl.FleetEvent{Kind: impl.FleetTick, Rates: c.rates}, noNote)
		var clocks []int
		for _, m := range got.Mates.Mates {
			clocks = append(clocks, m.Clock)
		}
		if !slices.Equal(clocks, c.clocks) || got.Mates.Land.Time != 2 {
			t.Errorf("%.20v: %v at %d, not %v", c.rates, clocks, got.Mates.Land.Time, c.clocks)
		}
	}
}

// reportsIn are the berths of the reports that are under way.
func reportsIn(w impl.FleetWorld) string {
	var all []string
	for _, r := range w.Reports {
		all = append(all, r.Berth)
	}
	return strings.Join(all, " ")
}

func TestFleetDoTickReports(t *testing.T) {
	for up, want := range map[string]string{"abc": "a b c", "ab": "a b", "ac": "a c", "bc": "b c", "a": "a", "b": "b", "c": "c", "": ""} {
		w := threeBerths()
		for i, m := range w.Mates.Mates {
			w.Mates.Mates[i].Up = strings.Contains(up, m.Name)
		}
		for _, before := range []int{0, 1, 2, 50, 57, 58, 59, 60} {
			w.Reports = slices.Repeat([]impl.FleetReport{{Berth: "old"}}, before)
			got := checkWharfDone(t, "up: "+up, w, impl.FleetEvent{Kind: impl.FleetTick}, noNote)
			room := strings.Join(strings.Fields(want)[:min(len(up), 60-before)], " ")
			if told := reportsIn(got); told != strings.TrimSpace(strings.Repeat("old ", before)+room) {
				t.Errorf("up: %s, behind %d: %q", up, before, told)
			}
		}
	}
	// A machine whose clock ends in this tick tells nothing.
	w := threeBerths()
	w.Mates.Mates[1].Clock = 999997
	for rate, want := range map[int]string{3: "a b c", 4: "a c"} {
		got := checkWharfDone(t, "at the end of a clock", w, impl.FleetEvent{Kind: impl.FleetTick, Rates: []int{1, rate, 1}}, noNote)
		if reportsIn(got) != want {
			t.Errorf("rate %d: %q", rate, reportsIn(got))
		}
	}
	// At the end of the book's time the mates tick and tell on.
	w = threeBerths()
	w.Mates.Land.Time = 2000000
	if got := checkWharfDone(t, "at the end of time", w, impl.FleetEvent{Kind: impl.FleetTick}, noNote); got.Mates.Land.Time != 2000000 || got.Mates.Mates[2].Clock != 2 || reportsIn(got) != "a b c" {
		t.Errorf("%+v", got)
	}
}

// What is in flight by its place: one is brought, lost, doubled; by all other places nothing happens.
func TestFleetDoMail(t *testing.T) {
	texts := []string{
		"told a 5\nwant web-2 3 v-web-1 1 2 0 4\n", "asked a v-web-0 web-1 51\n", "x", "given c v web-3 1\n", "here a 3\n", "",
	}
	w := knownWharf()
	w.Mates.Flight = texts
	for kind, mate := range map[int]int{impl.FleetBring: impl.MateEvBring, impl.FleetLose: impl.MateEvLose, impl.FleetDouble: impl.MateEvDouble} {
		for place := range texts {
			want := plainWharf(w)
			want.Mates = impl.MateDo(w.Mates, impl.MateEvent{Kind: mate, A: place})
			does(t, "mail", w, impl.FleetEvent{Kind: kind, A: place}, want)
			does(t, "mail with more", w, impl.FleetEvent{Kind: kind, A: place, B: 9, Rates: []int{4, 4}}, want)
		}
		for _, place := range farPlaces(len(texts)) {
			does(t, "no mail there", w, impl.FleetEvent{Kind: kind, A: place}, w)
		}
		none := knownWharf()
		does(t, "no mail at all", none, impl.FleetEvent{Kind: kind}, none)
	}
	flies := func(kind, place int) string {
		return strings.Join(impl.FleetDo(w, impl.FleetEvent{Kind: kind, A: place}).Mates.Flight, "|")
	}
	if got := flies(impl.FleetLose, 1); got != strings.Join(slices.Delete(slices.Clone(texts), 1, 2), "|") {
		t.Errorf("lost: %q", got)
	}
	if got := flies(impl.FleetDouble, 1); got != strings.Join(append(slices.Clone(texts), texts[1]), "|") {
		t.Errorf("doubled: %q", got)
	}
	if got := flies(impl.FleetBring, 1); got != strings.Join(append(slices.Delete(slices.Clone(texts), 1, 2), "given a v-web-0 web-1 51\n"), "|") {
		t.Errorf("brought: %q", got)
	}
	if m := impl.FleetDo(w, impl.FleetEvent{Kind: impl.FleetBring}).Mates.Mates[0]; m.Seen != 5 || m.Wants[0].Copy != "web-2" {
		t.Errorf("brought: %+v", m)
	}
	// Where the flight is full, what would be one more is left out.
	w.Mates.Flight = filled(300)
	does(t, "no room", w, impl.FleetEvent{Kind: impl.FleetDouble, A: 7}, w)
}

func TestFleetDoReports(t *testing.T) {
	w := silentSince(knownWharf(), 20, 3, 4, 5)
	w.Reports = []impl.FleetReport{
		reportOf("a", 4, "web-1/3/3"),
		reportOf("nowhere", 4, "web-1/3/3 web-2/3/3"),
		reportOf("c", 0, ""),
		reportOf("a", 4, "web-1/3/4 web-2/3/4"),
		reportOf("b", 0, "web-1/3/3"),
	}
	without := func(place int) impl.FleetWorld {
		next := plainWharf(w)
		next.Reports = slices.Delete(next.Reports, place, place+1)
		return next
	}
	for place, r := range w.Reports {
		does(t, "missed", w, impl.FleetEvent{Kind: impl.FleetMiss, A: place}, without(place))
		does(t, "heard", w, impl.FleetEvent{Kind: impl.FleetListen, A: place}, impl.FleetHear(without(place), r))
		does(t, "heard, with more", w, impl.FleetEvent{Kind: impl.FleetListen, A: place, B: 3, Rates: []int{4}}, impl.FleetHear(without(place), r))
	}
	for _, place := range farPlaces(len(w.Reports)) {
		for _, kind := range []int{impl.FleetListen, impl.FleetMiss} {
			does(t, "no report there", w, impl.FleetEvent{Kind: kind, A: place}, w)
			does(t, "no report at all", knownWharf(), impl.FleetEvent{Kind: kind, A: place}, knownWharf())
		}
	}
	does(t, "no report at all", knownWharf(), impl.FleetEvent{Kind: impl.FleetListen}, knownWharf())
	// Of a berth that is not there it is taken out, and changes nothing more.
	does(t, "of another fleet", w, impl.FleetEvent{Kind: impl.FleetListen, A: 1}, without(1))
	tell := func(w impl.FleetWorld) string {
		return fmt.Sprint(copiesIn(w), " ", w.Heard[0].Time, w.Heard[1].Time, w.Heard[2].Time, " ", reportsIn(w))
	}
	for place, want := range []string{
		"web-1@a/2/v6 web-2@a/2/v6 web-3@c/3/v1 20 4 5 nowhere c a b",
		"web-1@a/3/v1 web-2@a/3/v1 web-3@c/3/v1 3 4 5 a c a b",
		"web-1@a/3/v1 web-2@a/3/v1 web-3@c/2/v6 3 4 20 a nowhere a b",
		"web-1@a/3/v1 web-2@a/3/v1 web-3@c/3/v1 20 4 5 a nowhere c b",
		"web-1@a/3/v1 web-2@a/3/v1 web-3@c/3/v1 3 20 5 a nowhere c a",
	} {
		if got := tell(impl.FleetDo(w, impl.FleetEvent{Kind: impl.FleetListen, A: place})); got != want {
			t.Errorf("heard %d: %s, not %s", place, got, want)
		}
	}
	// A copy that is gone by a report has room made for it.
	w = withPlace(webAt("1e@a 2@b:0"), "a", 2)
	w.Reports = []impl.FleetReport{reportOf("a", 2, "")}
	if got := impl.FleetDo(w, impl.FleetEvent{Kind: impl.FleetListen}); copiesIn(got) != "web-2@b/3/v1" || len(got.Reports) != 0 {
		t.Errorf("%+v", got)
	}
}

func TestFleetDoFallAndRise(t *testing.T) {
	w := knownWharf()
	w.Mates.Mates[0].Runs = []impl.MateRun{{Want: webWant(1, 0), State: impl.MateReady, Until: 60}, {Want: webWant(2, 1), State: impl.MateWaiting}}
	w.Mates.Mates[1].Runs = []impl.MateRun{{Want: webWant(4, 3), State: impl.MateStopping, Until: 40}}
	for at := range 3 {
		for _, b := range []int{0, 1, -1, 2, math.MinInt, math.MaxInt} {
			want := plainWharf(w)
			want.Mates.Mates[at] = impl.MateFall(w.Mates.Mates[at], b != 0)
			does(t, "falls", w, impl.FleetEvent{Kind: impl.FleetFall, A: at, B: b}, want)
			want.Mates.Mates[at] = impl.MateRise(w.Mates.Mates[at])
			does(t, "rises", w, impl.FleetEvent{Kind: impl.FleetRise, A: at, B: b}, want)
		}
	}
	states := func(kind, at, b int) string {
		m := impl.FleetDo(w, impl.FleetEvent{Kind: kind, A: at, B: b}).Mates.Mates[at]
		var all []string
		for _, run := range m.Runs {
			all = append(all, fmt.Sprint(run.State))
		}
		return fmt.Sprint(m.Up, m.Known, " ", strings.Join(all, " "))
	}
	for got, want := range map[string]string{
		states(impl.FleetFall, 0, 0): "false false 4",
		states(impl.FleetFall, 0, 1): "false false 2",
		states(impl.FleetFall, 1, 0): "false false 6", // it is down already: what lives, lives on
		states(impl.FleetFall, 1, 1): "false false 2",
		states(impl.FleetRise, 0, 0): "true true 4 2",
		states(impl.FleetRise, 1, 0): "true false 6",
	} {
		if got != want {
			t.Errorf("%s, not %s", got, want)
		}
	}
	// What a machine that is down has left is gone with the next fall.
	fallen := impl.FleetDo(w, impl.FleetEvent{Kind: impl.FleetFall, A: 1, B: 1})
	if got := checkWharfDone(t, "falls once more", fallen, impl.FleetEvent{Kind: impl.FleetFall, A: 1}, noNote); len(fallen.Mates.Mates[1].Runs) != 1 || len(got.Mates.Mates[1].Runs) != 0 {
		t.Errorf("%+v", got.Mates)
	}
	for _, at := range farPlaces(3) {
		does(t, "no such mate", w, impl.FleetEvent{Kind: impl.FleetFall, A: at, B: 1}, w)
		does(t, "no such mate", w, impl.FleetEvent{Kind: impl.FleetRise, A: at}, w)
	}
	w.Mates.Mates[1] = impl.Mate{Name: "b", Clock: 1000000}
	does(t, "its clock is at its end", w, impl.FleetEvent{Kind: impl.FleetRise, A: 1}, w)
}

func TestFleetDoOtherKinds(t *testing.T) {
	for _, w := range []impl.FleetWorld{fullWharf(), knownWharf(), emptyWharf("a")} {
		for _, kind := range []int{0, 13, 14, -1, -12, math.MinInt, math.MaxInt} {
			for _, e := range []impl.FleetEvent{{Kind: kind}, {Kind: kind, A: 1, B: 1, Rates: []int{1}, Wish: needsWish("web", webKind()).Wish, Needs: webKind()}} {
				does(t, "another kind", w, e, w)
			}
		}
	}
}

// A fleet that is not valid is nothing behind each event and any rounds, whatever is wrong with it.
func TestFleetDoAndCalmOfNone(t *testing.T) {
	broken := brokenWharves()
	broken["nothing"] = impl.FleetWorld{}
	for what, w := range broken {
		for kind := -1; kind <= 13; kind++ {
			e := needsWish("new", impl.FleetKind{})
			e.Kind, e.A = kind, 1
			does(t, what, w, e, impl.FleetWorld{})
		}
		for _, rounds := range []int{-1, 0, 1, 2, 20000, 20001, math.MinInt, math.MaxInt} {
			if got := impl.FleetCalm(w, rounds, []int{1, 2}); !sameWharf(got, impl.FleetWorld{}) {
				t.Errorf("%s: %d rounds: %+v", what, rounds, got)
			}
		}
		checkSettled(t, what, w)
		if impl.FleetSafe(w) || impl.FleetSettled(w) || len(impl.FleetWaits(w)) > 0 {
			t.Errorf("%s: it is safe, or settled, or something waits", what)
		}
	}
}

func needsWish(name string, needs impl.FleetKind) impl.FleetEvent {
	return impl.FleetEvent{Kind: impl.FleetWish, Wish: impl.StewService{Name: name, Image: 4, Want: 2, Down: 1}, Needs: needs}
}

func TestFleetDoWish(t *testing.T) {
	w := impl.FleetNew(emptyWharf("a", "b").Berths)
	for i, name := range []string{"web", "db", "xl", "eightlet"} {
		needs := impl.FleetKind{Service: "any", Rank: i, Volume: true, Pull: 2}
		next := impl.FleetDo(w, needsWish(name, needs))
		needs.Service = name
		if !slices.Contains(next.Kinds, needs) || len(next.Kinds) != i+1 || next.Stew.Now != i+1 {
			t.Errorf("%s: %+v", name, next.Kinds)
		}
		book, code := impl.StewSea(w.Stew, impl.StewEvent{Kind: impl.StewWish, Service: needsWish(name, needs).Wish})
		if code != 0 || !sameBook(next.Stew, book) {
			t.Errorf("%s: %+v, not %+v", name, next.Stew, book)
		}
		checkWharf(t, name, next, "")
		w = next
	}
	// A service that is there keeps its kind, whatever is needed now.
	again := needsWish("web", impl.FleetKind{Rank: 9999})
	again.Wish.Want = 5
	next := impl.FleetDo(w, again)
	if !slices.Equal(next.Kinds, w.Kinds) || next.Stew.Services[2].Want != 5 || next.Stew.Now != 5 {
		t.Errorf("%+v", next)
	}
	// What would not be valid does not happen.
	needs := func(change func(k *impl.FleetKind)) impl.FleetEvent {
		var k impl.FleetKind
		change(&k)
		return needsWish("new", k)
	}
	for what, e := range map[string]impl.FleetEvent{
		"a name that is too long": needsWish("ninelette", impl.FleetKind{}),
		"no name":                 needsWish("", impl.FleetKind{}),
		"no name of chapter 18":   needsWish("x_y", impl.FleetKind{}),
		"rank":                    needs(func(k *impl.FleetKind) { k.Rank = 101 }),
		"room":                    needs(func(k *impl.FleetKind) { k.Room = -1 }),
		"select":                  needs(func(k *impl.FleetKind) { k.Select = "((" }),
		"grace":                   needs(func(k *impl.FleetKind) { k.Grace = 101 }),
		"no spare":                {Kind: impl.FleetWish, Wish: impl.StewService{Name: "new", Image: 4}},
		"of one that is there":    {Kind: impl.FleetWish, Wish: impl.StewService{Name: "web"}},
	} {
		if got := impl.FleetDo(w, e); !sameWharf(got, w) {
			t.Errorf("%s: it happens: %+v", what, got)
		}
	}
	w.Stew.Now = 1000000
	if got := impl.FleetDo(w, needsWish("new", impl.FleetKind{})); !sameWharf(got, w) {
		t.Errorf("at the end of versions: %+v", got)
	}
}

// Gone and back: a service that is there keeps its kind and its numbers; one that was dropped is new.
func TestFleetDoWishGone(t *testing.T) {
	w := impl.FleetDo(emptyWharf("a"), needsWish("web", webKind()))
	wish := func(gone bool, needs impl.FleetKind) {
		t.Helper()
		e := needsWish("web", needs)
		e.Wish.Gone = gone
		w = checkWharfDone(t, "a wish", w, e, noNote)
	}
	steward := func(kind int) {
		t.Helper()
		w = checkWharfDone(t, "a steward", w, impl.FleetEvent{Kind: impl.FleetStewards, A: kind}, noNote)
	}
	other := impl.FleetKind{Service: "web", Rank: 7, Room: 3}
	steward(impl.StewCounter)
	wish(true, other)
	if !w.Stew.Services[0].Gone || w.Kinds[0] != webKind() || copiesIn(w) != "web-1/1/v7 web-2/1/v7" {
		t.Errorf("%+v", w)
	}
	wish(false, other)
	if w.Stew.Services[0].Gone || w.Kinds[0] != webKind() || w.Stew.Services[0].Next != 3 {
		t.Errorf("%+v", w)
	}
	wish(true, impl.FleetKind{Rank: -1}) // what it needs is not asked for
	steward(impl.StewSweeper)
	w = checkWharfDone(t, "the land", w, impl.FleetEvent{Kind: impl.FleetLand}, noNote)
	steward(impl.StewSweeper)
	if len(w.Stew.Services)+len(w.Kinds)+len(w.Stew.Copies) > 0 {
		t.Errorf("%+v", w)
	}
	wish(true, impl.FleetKind{Rank: -1}) // now it is
	if len(w.Stew.Services)+len(w.Kinds) > 0 {
		t.Errorf("%+v", w)
	}
	wish(true, other) // a new one may be Gone from its beginning
	if w.Kinds[0] != other || w.Stew.Services[0].Next != 1 || !w.Stew.Services[0].Gone {
		t.Errorf("%+v", w)
	}
	// As many services as may be, and one more, which is none, while those that are there may change.
	w = emptyWharf("a")
	for i := range 9 {
		w = checkWharfDone(t, "many", w, needsWish(fmt.Sprint("s", i), impl.FleetKind{Rank: i}), noNote)
	}
	if len(w.Stew.Services) != 8 || len(w.Kinds) != 8 || w.Kinds[7].Rank != 7 || w.Stew.Now != 13 {
		t.Errorf("%+v", w)
	}
	if w = checkWharfDone(t, "many", w, needsWish("s4", impl.FleetKind{}), noNote); w.Stew.Now != 14 || w.Kinds[4].Rank != 4 {
		t.Errorf("%+v", w)
	}
}

func TestFleetDoDrain(t *testing.T) {
	w := withService(threeBerths(), webKind(), "1@a 2")
	for at := range 3 {
		for _, b := range []int{0, 1, -1, math.MinInt} {
			for _, was := range []bool{false, true} {
				w.Stew.Berths[at].Drain = was
				next := impl.FleetDo(w, impl.FleetEvent{Kind: impl.FleetDrain, A: at, B: b})
				want := plainWharf(w)
				want.Stew.Now, want.Stew.Berths[at].Drain = 6, b != 0
				if !sameWharf(next, want) {
					t.Errorf("%d, %d: %+v, not %+v", at, b, next, want)
				}
			}
		}
	}
	for _, at := range []int{-1, 3, math.MinInt, math.MaxInt} {
		if next := impl.FleetDo(w, impl.FleetEvent{Kind: impl.FleetDrain, A: at, B: 1}); !sameWharf(next, w) {
			t.Errorf("%d: %+v", at, next)
		}
	}
	w.Stew.Now = 1000000
	if next := impl.FleetDo(w, impl.FleetEvent{Kind: impl.FleetDrain, B: 1}); !sameWharf(next, w) {
		t.Errorf("at the end of versions: %+v", next)
	}
}

func TestFleetDoStewards(t *testing.T) {
	t.Parallel()
	do := func(w impl.FleetWorld, kind int) impl.FleetWorld {
		return impl.FleetDo(w, impl.FleetEvent{Kind: impl.FleetStewards, A: kind})
	}
	// A copy that has failed is Ending, and has no slot any more; the next one may have it.
	w := withService(emptyWharf("a", "b"), webKind(), "1@a:0 2@b:1 3@a:2")
	w.Stew.Copies[1].State = impl.StewFailed
	w = do(w, impl.StewMender)
	if !slices.Equal(w.Slots, []impl.FleetSlot{slotOf("web", 1, 0), slotOf("web", 3, 2)}) || !w.Stew.Copies[1].Ending {
		t.Errorf("%+v", w)
	}
	w = impl.FleetPlace(do(w, impl.StewCounter))
	if got := placedIn(w); got != "web-1@a:0/3/v1 web-3@a:2/3/v1 web-4@b:1/2/v8" {
		t.Error(got)
	}
	// A service that is gone goes with its kind.
	w = withService(withService(emptyWharf("a"), impl.FleetKind{Service: "db", Rank: 3}, "1@a"), webKind(), "")
	w.Stew.Services[1].Gone = true
	w = do(w, impl.StewSweeper)
	if len(w.Kinds) != 1 || w.Kinds[0] != (impl.FleetKind{Service: "db", Rank: 3}) || len(w.Slots) != 1 {
		t.Errorf("%+v", w)
	}
	for _, kind := range []int{0, 7, -1, math.MinInt, math.MaxInt} {
		if next := do(fullWharf(), kind); !sameWharf(next, fullWharf()) {
			t.Errorf("%d: %+v", kind, next)
		}
	}
	r := rand.New(rand.NewSource(301))
	changed := map[int]int{}
	for i := range 600 {
		w, kind := randomWharf(r), 1+i%6
		if kind == impl.StewDrainer { // it waits until no copy is old
			for j := range w.Stew.Copies {
				w.Stew.Copies[j].Image = 1
			}
			for j := range w.Stew.Services {
				w.Stew.Services[j].Image, w.Stew.Services[j].Want = 1, r.Intn(3)
			}
			w.Stew.Berths[0].Drain = true
		}
		next := do(w, kind)
		if !sameWharf(next, modelStewarded(plainWharf(w), kind, noNote)) || !impl.FleetValid(next) {
			t.Fatalf("%d of %+v: %+v", kind, w, next)
		}
		if next.Stew.Now > w.Stew.Now {
			changed[kind]++
		}
	}
	for kind := 1; kind <= 6; kind++ {
		if changed[kind] < 10 {
			t.Errorf("the fleets tell too little: %v", changed)
		}
	}
}

// The land gives up first, then places, then tells: so what is given up makes room, and its slot is free again.
func TestFleetDoLand(t *testing.T) {
	t.Parallel()
	land := impl.FleetEvent{Kind: impl.FleetLand}
	w := silentSince(withPlace(withPlace(webAt("1@a:0 2@b:1 3 4e"), "a", 3, webWant(1, 0)), "b", 4, webWant(2, 1)), 100, 59, 60, 60)
	next := impl.FleetDo(w, land)
	if got := placedIn(next) + "; " + toldIn(next); got != "web-2@b:1/3/v1 web-3@c:0/2/v7; a 4; b 4 web-2=web-1; c 1 web-3=web-0" || next.Stew.Now != 7 {
		t.Errorf("%s at %d", got, next.Stew.Now)
	}
	if again := impl.FleetDo(next, land); !sameWharf(again, next) {
		t.Errorf("the land finds something more: %s", placedIn(again))
	}
	// What it is told beside its Kind counts for nothing.
	if got := impl.FleetDo(w, impl.FleetEvent{Kind: impl.FleetLand, A: math.MinInt, B: math.MaxInt, Rates: []int{1, 9}, Wish: impl.StewService{Name: "web", Want: 9}, Needs: impl.FleetKind{Rank: -1}}); !sameWharf(got, next) {
		t.Errorf("%+v", got)
	}
	// One version is left, for what is given up; then nothing can be placed, but all is told.
	w.Stew.Now = 999999
	next = impl.FleetDo(w, land)
	if got := copiesIn(next) + "; " + toldIn(next); got != "web-2@b/3/v1 web-3/1/v1; a 4; b 4 web-2=web-1" || next.Stew.Now != 1000000 {
		t.Errorf("%s at %d", got, next.Stew.Now)
	}
	// None is left: what is told is what stands.
	w.Stew.Now, w.Mates.Land.Places = 1000000, nil
	next = impl.FleetDo(w, land)
	if got := copiesIn(next) + "; " + toldIn(next); got != "web-1@a/3/v1 web-2@b/3/v1 web-3/1/v1 web-4e/1/v1; a 1 web-1=web-0; b 1 web-2=web-1" {
		t.Error(got)
	}
	r := rand.New(rand.NewSource(302))
	met := map[string]int{}
	note := func(what string) { met[what]++ }
	for i := range 1500 {
		w := randomWharf(r)
		if i%20 == 0 {
			breakWharf(r, &w)
		}
		next, want := impl.FleetDo(w, land), modelTold(modelPlaced(modelSwept(w, note), note), note)
		if !sameWharf(next, want) || impl.FleetValid(next) != impl.FleetValid(w) {
			t.Fatalf("FleetLand of %+v\nis %+v\nnot %+v", w, next, want)
		}
	}
	for _, what := range []string{"not valid", "gone 0", "gone 1", "gone 3", "placed 1", "placed 3", "goes: code 0", "comes: code 0", "comes: code 3"} {
		if met[what] < 20 {
			t.Errorf("the fleets tell too little of %q: %v", what, met)
		}
	}
}

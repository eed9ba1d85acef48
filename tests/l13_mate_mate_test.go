package tests

import (
	"fmt"
	"math"
	"math/rand"
	"reflect"
	"slices"
	"strings"
	"testing"

	"loop.example/wharffleet/impl"
)

func TestMateParcelNumbers(t *testing.T) {
	if got := []int{impl.MateTold, impl.MateAsked, impl.MateGiven, impl.MateBack, impl.MateGotBack, impl.MateHere, impl.MateMaxHolds}; !slices.Equal(got, []int{1, 2, 3, 4, 5, 6, 40}) {
		t.Error(got)
	}
}

// Parcels to the berth a, with what their kinds use alone.

func toldTo(seen int, wants ...impl.MateWant) impl.MateParcel {
	return impl.MateParcel{Kind: impl.MateTold, Berth: "a", Seen: seen, Wants: wants}
}

func givenTo(hold, copy string, at int) impl.MateParcel {
	return impl.MateParcel{Kind: impl.MateGiven, Berth: "a", Hold: hold, Copy: copy, At: at}
}

func gotBackTo(hold string, at int) impl.MateParcel {
	return impl.MateParcel{Kind: impl.MateGotBack, Berth: "a", Hold: hold, At: at}
}

func tellAsks(list []impl.MateAsk) string {
	var told []string
	for _, a := range list {
		told = append(told, fmt.Sprintf("%s=%s:%d-%d", a.Hold, a.Copy, a.First, a.At))
	}
	return strings.Join(told, " ")
}

// tellMate is a mate's clock, its runs (copy, state, ticks to go, lease), what it asks for and what it gives back.
func tellMate(m impl.Mate) string {
	var runs []string
	for _, r := range m.Runs {
		runs = append(runs, fmt.Sprintf("%s%d/%d@%d", r.Want.Copy, r.State, r.Left, r.Until))
	}
	return fmt.Sprintf("%d [%s] asks [%s] gives [%s]", m.Clock, strings.Join(runs, " "), tellAsks(m.Asks), tellAsks(m.Gives))
}

func tellSent(list []impl.MateParcel) string {
	words := map[int]string{1: "told", 2: "asked", 3: "given", 4: "back", 5: "gotback", 6: "here"}
	var told []string
	for _, p := range list {
		if p.Kind == impl.MateHere {
			told = append(told, fmt.Sprintf("here %d", p.Seen))
		} else {
			told = append(told, fmt.Sprintf("%s %s %s %d", words[p.Kind], p.Hold, p.Copy, p.At))
		}
	}
	return strings.Join(told, ", ")
}

// mateTale is a mate to which one thing is done behind the other, each held against the second reading.
type mateTale struct {
	t *testing.T
	m impl.Mate
}

func (x *mateTale) tick(rate int, wantMate, wantSent string) {
	x.t.Helper()
	next, sent := checkMateTick(x.t, x.m, rate, noNote)
	if got := tellMate(next); got != wantMate {
		x.t.Errorf("behind a tick of %d it is\n%s, not\n%s", rate, got, wantMate)
	}
	if got := tellSent(sent); got != wantSent {
		x.t.Errorf("at %d it sends %s, not %s", next.Clock, got, wantSent)
	}
	x.m = next
	checkMateValid(x.t, "in a tale", x.m, true)
}

func (x *mateTale) take(p impl.MateParcel) {
	x.t.Helper()
	x.m = checkMateTake(x.t, x.m, p, noNote)
	checkMateValid(x.t, "in a tale", x.m, true)
}

// takesNot takes a parcel that changes nothing.
func (x *mateTale) takesNot(p impl.MateParcel) {
	x.t.Helper()
	before := plainMate(x.m)
	if x.take(p); !reflect.DeepEqual(plainMate(x.m), before) {
		x.t.Errorf("behind %+v it is\n%s, not\n%s", p, tellMate(x.m), tellMate(before))
	}
}

func newTale(t *testing.T) *mateTale { return &mateTale{t, impl.Mate{Name: "a", Up: true}} }

// tellLife is a whole life, a line a tick: it is told of one copy with a hold, is given that as often as it asks, is told of nothing from the clock 20 on, and hears of the second word of it that it is back. Each answer comes a tick late.
func tellLife(t *testing.T, rate int) string {
	t.Helper()
	m := checkMateTake(t, impl.Mate{Name: "a", Up: true}, toldTo(1, impl.MateWant{Copy: "c", Version: 1, Hold: "v", Pull: 1, Start: 2, Grace: 2}), noNote)
	var told []string
	var late []impl.MateParcel
	for backs := 0; m.Clock < 20 || backs < 3; {
		next, sent := checkMateTick(t, m, rate, noNote)
		told = append(told, tellMate(next)+" > "+tellSent(sent))
		m = next
		for _, p := range late {
			m = checkMateTake(t, m, p, noNote)
		}
		late = nil
		for _, p := range sent {
			switch p.Kind {
			case impl.MateAsked:
				late = append(late, givenTo(p.Hold, p.Copy, p.At))
			case impl.MateBack:
				if backs++; backs == 2 {
					late = append(late, gotBackTo(p.Hold, p.At))
				}
			}
		}
		if m.Clock >= 20 {
			m = checkMateTake(t, m, toldTo(2), noNote)
		}
	}
	last, sent := checkMateTick(t, m, rate, noNote)
	return strings.Join(append(told, tellMate(last)+" > "+tellSent(sent)), "\n")
}

// wholeLives are by their rate, from 1 on.
func wholeLives() []string {
	return []string{
		`1 [c1/1@0] asks [v=c:1-1] gives [] > asked v c 1, here 1
2 [c2/0@0] asks [v=c:1-1] gives [] > here 1
3 [c3/2@17] asks [v=c:1-1] gives [] > here 1
4 [c3/1@17] asks [v=c:1-1] gives [] > here 1
5 [c4/0@17] asks [v=c:1-1] gives [] > here 1
6 [c4/0@17] asks [v=c:1-1] gives [] > here 1
7 [c4/0@17] asks [v=c:1-7] gives [] > asked v c 7, here 1
8 [c4/0@17] asks [v=c:1-7] gives [] > here 1
9 [c4/0@23] asks [v=c:1-7] gives [] > here 1
10 [c4/0@23] asks [v=c:1-7] gives [] > here 1
11 [c4/0@23] asks [v=c:1-7] gives [] > here 1
12 [c4/0@23] asks [v=c:1-7] gives [] > here 1
13 [c4/0@23] asks [v=c:1-13] gives [] > asked v c 13, here 1
14 [c4/0@23] asks [v=c:1-13] gives [] > here 1
15 [c4/0@29] asks [v=c:1-13] gives [] > here 1
16 [c4/0@29] asks [v=c:1-13] gives [] > here 1
17 [c4/0@29] asks [v=c:1-13] gives [] > here 1
18 [c4/0@29] asks [v=c:1-13] gives [] > here 1
19 [c4/0@29] asks [v=c:1-19] gives [] > asked v c 19, here 1
20 [c4/0@29] asks [v=c:1-19] gives [] > here 1
21 [c6/2@35] asks [v=c:1-19] gives [] > here 2
22 [c6/1@35] asks [v=c:1-19] gives [] > here 2
23 [] asks [] gives [v=c:1-19] > back v c 19, here 2
24 [] asks [] gives [v=c:1-19] > back v c 19, here 2
25 [] asks [] gives [v=c:1-19] > back v c 19, here 2
26 [] asks [] gives [] > here 2`,
		`2 [c1/1@0] asks [v=c:2-2] gives [] > asked v c 2, here 1
4 [c2/0@0] asks [v=c:2-2] gives [] > here 1
6 [c3/2@18] asks [v=c:2-2] gives [] > here 1
8 [c3/1@18] asks [v=c:2-8] gives [] > asked v c 8, here 1
10 [c4/0@18] asks [v=c:2-8] gives [] > here 1
12 [c4/0@24] asks [v=c:2-8] gives [] > here 1
14 [c4/0@24] asks [v=c:2-14] gives [] > asked v c 14, here 1
16 [c4/0@24] asks [v=c:2-14] gives [] > here 1
18 [c4/0@30] asks [v=c:2-14] gives [] > here 1
20 [c4/0@30] asks [v=c:2-20] gives [] > asked v c 20, here 1
22 [c6/2@30] asks [v=c:2-20] gives [] > here 2
24 [c6/1@36] asks [v=c:2-20] gives [] > here 2
26 [] asks [] gives [v=c:2-20] > back v c 20, here 2
28 [] asks [] gives [v=c:2-20] > back v c 20, here 2
30 [] asks [] gives [v=c:2-20] > back v c 20, here 2
32 [] asks [] gives [] > here 2`,
		`3 [c1/1@0] asks [v=c:3-3] gives [] > asked v c 3, here 1
6 [c2/0@0] asks [v=c:3-3] gives [] > here 1
9 [c3/2@19] asks [v=c:3-9] gives [] > asked v c 9, here 1
12 [c3/1@19] asks [v=c:3-9] gives [] > here 1
15 [c4/0@25] asks [v=c:3-15] gives [] > asked v c 15, here 1
18 [c4/0@25] asks [v=c:3-15] gives [] > here 1
21 [c4/0@31] asks [v=c:3-21] gives [] > asked v c 21, here 1
24 [c6/2@31] asks [v=c:3-21] gives [] > here 2
27 [c6/1@37] asks [v=c:3-21] gives [] > here 2
30 [] asks [] gives [v=c:3-21] > back v c 21, here 2
33 [] asks [] gives [v=c:3-21] > back v c 21, here 2
36 [] asks [] gives [v=c:3-21] > back v c 21, here 2
39 [] asks [] gives [] > here 2`,
		`4 [c1/1@0] asks [v=c:4-4] gives [] > asked v c 4, here 1
8 [c2/0@0] asks [v=c:4-4] gives [] > here 1
12 [c3/2@20] asks [v=c:4-12] gives [] > asked v c 12, here 1
16 [c3/1@20] asks [v=c:4-12] gives [] > here 1
20 [c4/0@28] asks [v=c:4-20] gives [] > asked v c 20, here 1
24 [c6/2@28] asks [v=c:4-20] gives [] > here 2
28 [c6/1@36] asks [v=c:4-20] gives [] > here 2
32 [] asks [] gives [v=c:4-20] > back v c 20, here 2
36 [] asks [] gives [v=c:4-20] > back v c 20, here 2
40 [] asks [] gives [v=c:4-20] > back v c 20, here 2
44 [] asks [] gives [] > here 2`,
	}
}

func TestMateWholeLife(t *testing.T) {
	for i, want := range wholeLives() {
		if got := tellLife(t, i+1); got != want {
			t.Errorf("with the rate %d its life is\n%s\nnot\n%s", i+1, got, want)
		}
	}
}

// wantOf takes no time for anything.
func wantOf(copy, hold string) impl.MateWant {
	return impl.MateWant{Copy: copy, Version: 1, Hold: hold}
}

// Several copies and holds at once: all that is asked for in the order of the copies, then all that is given back in the order of the holds, then that it is here.
func TestMateSendsInOrder(t *testing.T) {
	x := newTale(t)
	x.tick(2, "2 [] asks [] gives []", "here 0")
	x.take(toldTo(7, wantOf("b", "w"), wantOf("c", ""), wantOf("d", "v"), wantOf("e", "u")))
	x.tick(2, "4 [b1/0@0 c1/0@0 d1/0@0 e1/0@0] asks [u=e:4-4 v=d:4-4 w=b:4-4] gives []", "asked w b 4, asked v d 4, asked u e 4, here 7")
	x.take(givenTo("v", "d", 4))
	x.take(givenTo("w", "b", 4))
	x.tick(1, "5 [b3/0@20 c3/0@0 d3/0@20 e2/0@0] asks [u=e:4-4 v=d:4-4 w=b:4-4] gives []", "here 7")
	x.tick(1, "6 [b4/0@20 c4/0@0 d4/0@20 e2/0@0] asks [u=e:4-4 v=d:4-4 w=b:4-4] gives []", "here 7")
	// The copies change their holds, but for one: what waits goes at once, what lives is stopped first.
	x.take(toldTo(8, wantOf("a", "t"), wantOf("b", "u"), wantOf("d", "v"), wantOf("e", "w")))
	x.tick(4, "10 [a1/0@0 b6/0@20 c6/0@0 d4/0@20 e1/0@0] asks [t=a:10-10 v=d:4-10 w=e:10-10] gives [u=e:4-4]", "asked t a 10, asked v d 10, asked w e 10, back u e 4, here 8")
	// What has gone takes with it what is asked for its hold, also for another copy.
	x.tick(1, "11 [a2/0@0 b1/0@0 d4/0@20 e2/0@0] asks [t=a:10-10 v=d:4-10] gives [u=e:4-4 w=e:10-10]", "back u e 4, back w e 10, here 8")
	x.take(gotBackTo("u", 4))
	x.tick(1, "12 [a2/0@0 b2/0@0 d4/0@20 e2/0@0] asks [t=a:10-10 u=b:12-12 v=d:4-10] gives [w=e:10-10]", "asked u b 12, back w e 10, here 8")
	x.take(gotBackTo("w", 10))
	x.tick(4, "16 [a2/0@0 b2/0@0 d4/0@20 e2/0@0] asks [t=a:10-16 u=b:12-12 v=d:4-16 w=e:16-16] gives []", "asked t a 16, asked v d 16, asked w e 16, here 8")
	// What is killed for its lease, and not wanted, goes in one tick.
	x.take(toldTo(9))
	x.tick(1, "17 [] asks [] gives [t=a:10-16 u=b:12-12 v=d:4-16 w=e:16-16]", "back t a 16, back u b 12, back v d 16, back w e 16, here 9")
}

// One that has not heard what is wanted runs on what is there: its runs have no ticks but those of the machine, and it asks for nothing; it gives back on.
func TestMateNotKnown(t *testing.T) {
	x := newTale(t)
	x.m.Clock, x.m.Seen, x.m.Runs = 50, 4, severalRuns()
	x.m.Asks = []impl.MateAsk{{Hold: "g", Copy: "c", First: 3, At: 9}, {Hold: "h", Copy: "b", First: 50, At: 50}}
	x.m.Gives = []impl.MateAsk{{Hold: "f", Copy: "e", First: 0, At: 50}, {Hold: "k", Copy: "k", First: 2, At: 3}}
	x.tick(1, "51 [a1/2@0 b2/0@12 c2/0@54 d4/0@0 e5/16@0 f6/2@1000016] asks [g=c:3-9 h=b:50-50] gives [f=e:0-50 k=k:2-3]", "back f e 50, back k k 3, here 4")
	x.tick(4, "55 [a1/2@0 b2/0@12 c2/0@54 d4/0@0 e5/16@0 f6/2@1000016] asks [g=c:3-9 h=b:50-50] gives [f=e:0-50 k=k:2-3]", "back f e 50, back k k 3, here 4")
	x.take(gotBackTo("k", 3))
	x.take(givenTo("h", "b", 50))
	x.take(givenTo("g", "c", 9))
	x.takesNot(givenTo("f", "e", 50))
	x.tick(4, "59 [a1/2@0 b2/0@66 c2/0@54 d4/0@0 e5/16@0 f6/2@1000016] asks [g=c:3-9 h=b:50-50] gives [f=e:0-50]", "back f e 50, here 4")
	// It hears any number, also one that is less than what it has.
	x.take(toldTo(2, x.m.Runs[1].Want))
	x.tick(1, "60 [b3/2@66 d6/2@0 f6/1@1000016] asks [h=b:50-60] gives [f=e:0-50 g=c:3-9]", "asked h b 60, back f e 50, back g c 9, here 2")
}

// One that is not up sends nothing and hears nothing; the machine goes on, and kills what has no lease.
func TestMateNotUp(t *testing.T) {
	x := newTale(t)
	x.m.Up, x.m.Clock = false, 50
	x.m.Runs = slices.DeleteFunc(severalRuns(), func(r impl.MateRun) bool { return !impl.MateAlive(r) && r.Want.Hold == "" })
	x.tick(1, "51 [b2/0@12 c2/0@54 d4/0@0 e5/16@0 f6/2@1000016] asks [] gives []", "")
	x.tick(4, "55 [b2/0@12 c2/0@54 d4/0@0 e5/16@0 f6/2@1000016] asks [] gives []", "")
	for _, p := range everyKind(x.m) {
		x.takesNot(p)
	}
	x.tick(4, "59 [b2/0@12 c2/0@54 d4/0@0 e5/16@0 f6/2@1000016] asks [] gives []", "")
	// What has its hold for long enough is killed when that is over.
	x.m.Clock = 1000000 - 8
	x.m.Runs[4].Until = 1000000 - 1
	x.m.Runs[4].State = impl.MateWaiting
	x.m.Runs[4].Left = 0
	x.m.Runs[1].State, x.m.Runs[1].Until = impl.MateReady, 1000000
	x.tick(4, "999996 [b2/0@12 c4/0@1000000 d4/0@0 e5/16@0 f2/0@999999] asks [] gives []", "")
	x.tick(1, "999997 [b2/0@12 c2/0@1000000 d4/0@0 e5/16@0 f2/0@999999] asks [] gives []", "")
	x.tick(3, "1000000 [b2/0@12 c2/0@1000000 d4/0@0 e5/16@0 f2/0@999999] asks [] gives []", "")
	x.tick(1, "1000000 [] asks [] gives []", "")
	x.tick(1, "1000000 [] asks [] gives []", "")
}

// everyKind is a parcel of each kind, and of some that are none, with all that could be used filled in.
func everyKind(m impl.Mate) []impl.MateParcel {
	var list []impl.MateParcel
	for _, kind := range []int{1, 2, 3, 4, 5, 6, 0, 7, -1, math.MinInt, math.MaxInt} {
		p := impl.MateParcel{Kind: kind, Berth: m.Name, Seen: m.Seen + 1, Wants: severalWants(), Hold: "v", Copy: "c", At: 44}
		list = append(list, p)
		for _, a := range slices.Concat(m.Asks, m.Gives) {
			p.Hold, p.Copy, p.At = a.Hold, a.Copy, a.At
			list = append(list, p)
		}
	}
	return list
}

// fullMate is valid at the clock 50, and has some of all.
func fullMate() impl.Mate {
	return impl.Mate{
		Name: "a", Up: true, Clock: 50, Known: true, Seen: 3,
		Wants: []impl.MateWant{severalRuns()[1].Want, severalRuns()[2].Want, severalRuns()[3].Want},
		Runs:  severalRuns(),
		Asks:  []impl.MateAsk{{Hold: "e", Copy: "f", First: 10, At: 20}, {Hold: "g", Copy: "c", First: 30, At: 44}, {Hold: "h", Copy: "b", First: 50, At: 50}},
		Gives: []impl.MateAsk{{Hold: "f", Copy: "e", First: 0, At: 0}, {Hold: "k", Copy: "*", First: 7, At: 9}},
	}
}

// downMate is valid at the clock 50, and what a mate that was full could have left.
func downMate() impl.Mate {
	runs := severalRuns()
	return impl.Mate{Name: "a", Clock: 50, Runs: append(runs[1:3:3], runs[3:]...)}
}

// A parcel does what its kind says, whatever it has else; only those of three kinds change a mate, and only one that is up and has that name.
func TestMateTakeKinds(t *testing.T) {
	m := fullMate()
	changed := map[int]int{}
	for _, p := range everyKind(m) {
		got := checkMateTake(t, m, p, noNote)
		if !reflect.DeepEqual(plainMate(got), plainMate(m)) {
			changed[p.Kind]++
		}
		alone := impl.MateParcel{Kind: p.Kind, Berth: p.Berth}
		switch p.Kind {
		case impl.MateTold:
			alone.Seen, alone.Wants = p.Seen, p.Wants
		case impl.MateGiven:
			alone.Hold, alone.Copy, alone.At = p.Hold, p.Copy, p.At
		case impl.MateGotBack:
			alone.Hold, alone.At = p.Hold, p.At
		}
		if other := checkMateTake(t, m, alone, noNote); !reflect.DeepEqual(plainMate(got), plainMate(other)) {
			t.Errorf("%+v leaves\n%s, not\n%s", p, tellMate(got), tellMate(other))
		}
		for _, berth := range []string{"", "b", "aa", "A", "a ", "a\n", "*", strings.Repeat("a", 30)} {
			other := p
			other.Berth = berth
			(&mateTale{t, m}).takesNot(other)
		}
		(&mateTale{t, downMate()}).takesNot(p)
	}
	if want := map[int]int{1: 6, 3: 2, 5: 2}; !reflect.DeepEqual(changed, want) {
		t.Errorf("of each kind so many change a mate: %v, not %v", changed, want)
	}
}

func TestMateRates(t *testing.T) {
	for _, m := range []impl.Mate{fullMate(), downMate(), {Name: "a", Up: true}, {Name: "a"}, {Name: "a", Clock: 1000000}, {Name: "a", Up: true, Clock: 1000000}} {
		for _, rate := range []int{math.MinInt, math.MinInt + 50, -4, -1, 0, 5, 6, 100, 1 << 32, 1<<32 + 1, math.MaxInt - 49, math.MaxInt} {
			next, sent := checkMateTick(t, m, rate, noNote)
			if !reflect.DeepEqual(plainMate(next), plainMate(m)) || len(sent) != 0 {
				t.Errorf("with the rate %d it is %+v, and sends %+v", rate, next, sent)
			}
		}
		for rate := 1; rate <= 4; rate++ {
			next, sent := checkMateTick(t, m, rate, noNote)
			if next.Clock != min(m.Clock+rate, 1000000) || (len(sent) > 0) != (m.Up && m.Clock < 1000000) {
				t.Errorf("with the rate %d it is %+v, and sends %+v", rate, next, sent)
			}
		}
	}
}

// At the end of the clock the machine falls: the last reading may be met, but not passed.
func TestMateEndOfTheClock(t *testing.T) {
	for before := 0; before <= 6; before++ {
		for rate := 1; rate <= 4; rate++ {
			m := fullMate()
			m.Clock = 1000000 - before
			m.Runs[2].Until, m.Runs[5].Until = m.Clock+4, m.Clock+6
			next, sent := checkMateTick(t, m, rate, noNote)
			checkMateValid(t, "near the end", next, true)
			ended := rate > before
			if next.Up == ended || next.Known == ended || (len(sent) == 0) != ended {
				t.Errorf("%d before the end, behind %d: %+v, %+v", before, rate, next, sent)
			}
			if !ended {
				if next.Clock != m.Clock+rate {
					t.Errorf("%d before the end, behind %d: %+v", before, rate, next)
				}
				continue
			}
			want := impl.MateFall(m, true)
			want.Clock = 1000000
			if !reflect.DeepEqual(plainMate(next), plainMate(want)) {
				t.Errorf("%d before the end, behind %d: %+v, not %+v", before, rate, next, want)
			}
			if got, end := tellMate(next), fmt.Sprintf("1000000 [c2/0@%d f2/0@%d] asks [] gives []", m.Clock+4, m.Clock+6); got != end {
				t.Errorf("%d before the end, behind %d: %s, not %s", before, rate, got, end)
			}
			if up := checkMateRise(t, next); up.Up {
				t.Errorf("it rises at the end: %+v", up)
			}
		}
	}
}

// A lease is asked for anew when the ask is MateRenew old, and no earlier.
func TestMateRenews(t *testing.T) {
	w := wantOf("c", "v")
	for _, clock := range []int{0, 1, 50, 999990, 999996} {
		for rate := 1; rate <= 4; rate++ {
			for old := 0; old <= 9; old++ {
				at := clock - old
				if at < 0 {
					continue
				}
				x := newTale(t)
				x.m = impl.Mate{Name: "a", Up: true, Clock: clock, Known: true, Wants: []impl.MateWant{w}, Runs: []impl.MateRun{{Want: w, State: impl.MateWaiting}}, Asks: []impl.MateAsk{{Hold: "v", Copy: "c", First: at / 2, At: at}}}
				now := clock + rate
				if now-at >= 6 {
					x.tick(rate, fmt.Sprintf("%d [c2/0@0] asks [v=c:%d-%d] gives []", now, at/2, now), fmt.Sprintf("asked v c %d, here 0", now))
				} else {
					x.tick(rate, fmt.Sprintf("%d [c2/0@0] asks [v=c:%d-%d] gives []", now, at/2, at), "here 0")
				}
			}
		}
	}
}

// Only a run that is wanted just so asks; its state does not matter, and what stops and is wanted again asks, too.
func TestMateAsksForWhatIsWantedSo(t *testing.T) {
	own := impl.MateWant{Copy: "c", Version: 2, Hold: "v", Pull: 3, Start: 3, Dies: 3, Grace: 3}
	near := slices.DeleteFunc(wantsNear(own), func(w impl.MateWant) bool { return !impl.MateWantsOk([]impl.MateWant{w}) })
	for state := 1; state <= 6; state++ {
		run := impl.MateRun{Want: own, State: state, Left: 3, Until: 60}
		if state == impl.MateWaiting {
			run.Left = 0
		}
		for _, w := range append(near, own) {
			m := impl.Mate{Name: "a", Up: true, Clock: 50, Known: true, Seen: 1, Wants: []impl.MateWant{w}, Runs: []impl.MateRun{run}, Asks: []impl.MateAsk{{Hold: "v", Copy: "c", First: 40, At: 40}}}
			checkMateValid(t, "one that is wanted in some way", m, true)
			next, sent := checkMateTick(t, m, 1, noNote)
			asks := strings.HasPrefix(tellSent(sent), "asked v c 51, ")
			if (w == own) != asks {
				t.Errorf("in the state %d, wanted %+v: %s > %s", state, w, tellMate(next), tellSent(sent))
			}
			if w == own && (len(next.Runs) != 1 || next.Asks[0] != impl.MateAsk{Hold: "v", Copy: "c", First: 40, At: 51}) {
				t.Errorf("in the state %d: %s", state, tellMate(next))
			}
		}
	}
	if len(near) < 9 {
		t.Errorf("the wants tell too little: %d", len(near))
	}
}

// A hold that another copy asks for is asked for anew at once, and what was given for the one before counts no more.
func TestMateHoldOfAnotherCopy(t *testing.T) {
	old := impl.MateWant{Copy: "b", Version: 1, Hold: "v", Grace: 9}
	x := newTale(t)
	x.m = impl.Mate{Name: "a", Up: true, Clock: 50, Known: true, Seen: 1, Wants: []impl.MateWant{old}, Runs: []impl.MateRun{{Want: old, State: impl.MateReady, Until: 60}}, Asks: []impl.MateAsk{{Hold: "v", Copy: "b", First: 38, At: 44}}}
	x.take(toldTo(2, wantOf("c", "v")))
	x.tick(1, "51 [b6/9@60 c1/0@0] asks [v=c:51-51] gives []", "asked v c 51, here 2")
	x.takesNot(givenTo("v", "b", 44))
	x.takesNot(givenTo("v", "b", 51))
	x.takesNot(givenTo("v", "c", 44))
	x.takesNot(givenTo("v", "c", 50))
	x.takesNot(givenTo("v", "c", 52))
	x.take(givenTo("v", "c", 51))
	x.tick(1, "52 [b6/8@60 c3/0@67] asks [v=c:51-51] gives []", "here 2")
	// The one before is gone at last: the ask of the new one is what is given back.
	x.m.Runs[0].Left = 1
	x.tick(1, "53 [c4/0@67] asks [] gives [v=c:51-51]", "back v c 51, here 2")
	x.takesNot(givenTo("v", "c", 51))
	x.takesNot(gotBackTo("v", 50))
	x.takesNot(gotBackTo("v", 52))
	x.takesNot(gotBackTo("u", 51))
	x.take(gotBackTo("v", 51))
	x.tick(1, "54 [c4/0@67] asks [v=c:54-54] gives []", "asked v c 54, here 2")
	x.takesNot(givenTo("v", "c", 51))
	x.takesNot(givenTo("v", "c", 53))
	x.take(givenTo("v", "c", 54))
	x.tick(1, "55 [c4/0@70] asks [v=c:54-54] gives []", "here 2")
}

// What is given back is not asked for meanwhile, however long that takes.
func TestMateAsksNotForWhatItGivesBack(t *testing.T) {
	w := wantOf("c", "v")
	x := newTale(t)
	x.m = impl.Mate{Name: "a", Up: true, Clock: 0, Known: true, Seen: 1, Wants: []impl.MateWant{w}, Gives: []impl.MateAsk{{Hold: "v", Copy: "c", First: 0, At: 0}}}
	x.tick(4, "4 [c1/0@0] asks [] gives [v=c:0-0]", "back v c 0, here 1")
	for clock := 8; clock < 80; clock += 4 {
		x.tick(4, fmt.Sprintf("%d [c2/0@0] asks [] gives [v=c:0-0]", clock), "back v c 0, here 1")
		x.takesNot(givenTo("v", "c", 0))
	}
	x.take(gotBackTo("v", 0))
	x.tick(4, "80 [c2/0@0] asks [v=c:80-80] gives []", "asked v c 80, here 1")
}

// A run that goes gives back what is asked for its hold; with no ask there is nothing to give back.
func TestMateRunsThatGo(t *testing.T) {
	for _, c := range []struct {
		asks, gives string // a byte a hold
		want        string
	}{
		{"", "", "51 [] asks [] gives []"},
		{"v", "", "51 [] asks [] gives [v=c:40-50]"},
		{"u", "", "51 [] asks [u=c:40-50] gives []"},
		{"uvw", "", "51 [] asks [u=c:40-50 w=c:40-50] gives [v=c:40-50]"},
		{"v", "uw", "51 [] asks [] gives [u=c:40-50 v=c:40-50 w=c:40-50]"},
		{"u", "v", "51 [] asks [u=c:40-50] gives [v=c:40-50]"},
		{"", "v", "51 [] asks [] gives [v=c:40-50]"},
	} {
		m := impl.Mate{Name: "a", Up: true, Clock: 50, Known: true, Seen: 1, Runs: []impl.MateRun{{Want: wantOf("c", "v"), State: impl.MateWaiting}}}
		for _, h := range c.asks {
			m.Asks = append(m.Asks, impl.MateAsk{Hold: string(h), Copy: "c", First: 40, At: 50})
		}
		for _, h := range c.gives {
			m.Gives = append(m.Gives, impl.MateAsk{Hold: string(h), Copy: "c", First: 40, At: 50})
		}
		checkMateValid(t, c.want, m, true)
		if next, _ := checkMateTick(t, m, 1, noNote); tellMate(next) != c.want {
			t.Errorf("%q, %q: %s, not %s", c.asks, c.gives, tellMate(next), c.want)
		}
	}
	// Two with one hold go at once: it is given back once.
	m := impl.Mate{Name: "a", Up: true, Clock: 50, Known: true, Seen: 1, Runs: []impl.MateRun{{Want: wantOf("b", "v"), State: impl.MateStopping, Until: 60}, {Want: wantOf("c", "v"), State: impl.MateBackoff, Left: 3}}, Asks: []impl.MateAsk{{Hold: "v", Copy: "c", First: 40, At: 50}}}
	if next, sent := checkMateTick(t, m, 1, noNote); tellMate(next) != "51 [] asks [] gives [v=c:40-50]" || tellSent(sent) != "back v c 50, here 1" {
		t.Errorf("%s > %s", tellMate(next), tellSent(sent))
	}
	// One without a hold gives nothing back.
	m.Runs = []impl.MateRun{{Want: wantOf("c", ""), State: impl.MatePulling}}
	if next, _ := checkMateTick(t, m, 1, noNote); tellMate(next) != "51 [] asks [v=c:40-50] gives []" {
		t.Error(tellMate(next))
	}
}

// asksCalled are so many, of holds that begin so.
func asksCalled(n int, with string) []impl.MateAsk {
	return numbered(n, func(name string) impl.MateAsk {
		return impl.MateAsk{Hold: with + name, Copy: "z", First: 1, At: 2}
	})
}

// Gives may be MateMaxHolds; what would be one more is forgotten, and no more asked for. The copies go in their order.
func TestMateGivesAreFew(t *testing.T) {
	for _, n := range []int{0, 37, 38, 39, 40} {
		m := impl.Mate{Name: "a", Up: true, Clock: 50, Known: true, Seen: 1, Gives: asksCalled(n, "m")}
		for i, copy := range []string{"a", "b", "c"} {
			m.Runs = append(m.Runs, impl.MateRun{Want: wantOf(copy, []string{"z", "x", "k"}[i]), State: impl.MatePulling, Left: 9})
		}
		m.Asks = []impl.MateAsk{{Hold: "k", Copy: "c", First: 3, At: 9}, {Hold: "x", Copy: "b", First: 3, At: 9}, {Hold: "z", Copy: "a", First: 3, At: 9}}
		next, sent := checkMateTick(t, m, 1, noNote)
		var want []string
		for i, hold := range []string{"z", "x", "k"} {
			if n+i < 40 {
				want = append(want, hold)
			}
		}
		var got []string
		for _, g := range next.Gives {
			if g.Hold[0] != 'm' {
				got = append([]string{g.Hold}, got...)
			}
		}
		if !slices.Equal(got, want) || len(next.Gives) != n+len(want) || len(next.Asks) != 0 || len(next.Runs) != 0 || len(sent) != len(next.Gives)+1 {
			t.Errorf("with %d before: %s > %s", n, tellMate(next), tellSent(sent))
		}
		checkMateValid(t, "with many gives", next, true)
	}
	// What was forgotten is asked for anew, if it is wanted: nothing stands against it.
	m := impl.Mate{Name: "a", Up: true, Clock: 50, Known: true, Seen: 1, Wants: []impl.MateWant{wantOf("c", "v")}, Gives: asksCalled(40, "m")}
	m.Runs = []impl.MateRun{{Want: wantOf("b", "v"), State: impl.MateWaiting}}
	m.Asks = []impl.MateAsk{{Hold: "v", Copy: "b", First: 3, At: 50}}
	next, sent := checkMateTick(t, m, 1, noNote)
	if tellAsks(next.Asks) != "v=c:51-51" || len(next.Gives) != 40 || !strings.HasPrefix(tellSent(sent), "asked v c 51, back mn000 z 2, ") {
		t.Errorf("%s > %s", tellMate(next), tellSent(sent))
	}
}

// Asks may be MateMaxHolds; what would be one more is not asked for, at no tick, until there is room: all that is asked for is in Asks. The copies ask in their order.
func TestMateAsksAreFew(t *testing.T) {
	for _, n := range []int{0, 37, 38, 39, 40} {
		m := impl.Mate{Name: "a", Up: true, Clock: 50, Known: true, Seen: 1, Asks: asksCalled(n, "m")}
		m.Wants = []impl.MateWant{wantOf("a", "z"), wantOf("b", "x"), wantOf("c", "k")}
		next, sent := checkMateTick(t, m, 1, noNote)
		checkMateValid(t, "with many asks", next, true)
		room := min(3, 40-n)
		if want := strings.Join(append([]string{"asked z a 51", "asked x b 51", "asked k c 51"}[:room:room], "here 1"), ", "); tellSent(sent) != want {
			t.Errorf("with %d before: it sends %s, not %s", n, tellSent(sent), want)
		}
		kept := strings.Fields("z=a:51-51 x=b:51-51 k=c:51-51")[:room]
		got := strings.Fields(tellAsks(slices.DeleteFunc(slices.Clone(next.Asks), func(a impl.MateAsk) bool { return a.Copy == "z" })))
		slices.Reverse(got)
		if !slices.Equal(got, kept) || len(next.Asks) != n+room {
			t.Errorf("with %d before: %s", n, tellMate(next))
		}
		for i, w := range m.Wants {
			given := checkMateTake(t, next, givenTo(w.Hold, w.Copy, 51), noNote)
			if (given.Runs[i].Until == 67) != (i < room) {
				t.Errorf("with %d before: %s", n, tellMate(given))
			}
		}
		again, sent := checkMateTick(t, next, 1, noNote)
		if tellSent(sent) != "here 1" || tellAsks(again.Asks) != tellAsks(next.Asks) {
			t.Errorf("with %d before: %s > %s", n, tellMate(again), tellSent(sent))
		}
	}
}

// With as many asks as may be, what is there is asked for anew, also for another copy, and what is behind one that has no room.
func TestMateAsksThatAreFull(t *testing.T) {
	m := impl.Mate{Name: "a", Up: true, Clock: 50, Known: true, Seen: 1, Asks: asksCalled(40, "m"), Wants: []impl.MateWant{wantOf("a", "new"), wantOf("c", "mn007"), wantOf("z", "mn009")}}
	next, sent := checkMateTick(t, m, 1, noNote)
	if tellSent(sent) != "asked mn007 c 51, asked mn009 z 51, here 1" || tellAsks(next.Asks[6:10]) != "mn006=z:1-2 mn007=c:51-51 mn008=z:1-2 mn009=z:1-51" || len(next.Asks) != 40 {
		t.Errorf("%s > %s", tellMate(next), tellSent(sent))
	}
	// One that goes makes room in the same tick.
	m.Runs = []impl.MateRun{{Want: wantOf("q", "mn020"), State: impl.MateWaiting}}
	next, sent = checkMateTick(t, m, 1, noNote)
	if tellSent(sent) != "asked new a 51, asked mn007 c 51, asked mn009 z 51, back mn020 z 2, here 1" || len(next.Asks) != 40 || tellAsks(next.Asks[39:]) != "new=a:51-51" {
		t.Errorf("%s > %s", tellMate(next), tellSent(sent))
	}
}

// All that a mate asks for in a tick is in its Asks behind it, asked at that clock.
func TestMateAsksAreRemembered(t *testing.T) {
	t.Parallel()
	r := rand.New(rand.NewSource(68))
	asked, full := 0, 0
	for range 10000 {
		m := randomMate(r)
		next, sent := impl.MateTick(m, 1+r.Intn(4))
		for _, p := range sent {
			if p.Kind != impl.MateAsked {
				continue
			}
			asked++
			at := modelAskFor(next.Asks, p.Hold)
			if at < 0 || next.Asks[at].Copy != p.Copy || next.Asks[at].At != p.At || p.At != next.Clock {
				t.Fatalf("%+v is not in the asks of %+v", p, next)
			}
		}
		if len(next.Asks) == impl.MateMaxHolds {
			full++
		}
	}
	if asked < 1000 || full < 300 {
		t.Errorf("the mates tell too little: %d, %d", asked, full)
	}
}

// There are at most twice MateMaxWants runs: what is wanted and has no room waits until there is some, the first wants first.
func TestMateRunsAreFew(t *testing.T) {
	wants := []impl.MateWant{wantOf("a", "v"), wantOf("m", ""), wantOf("z", "w")}
	wants[0].Pull, wants[2].Pull = 5, 7
	for n := 16; n <= 20; n++ {
		stopping := func(name string) impl.MateRun {
			return impl.MateRun{Want: wantOf(name, ""), State: impl.MateStopping, Left: 3}
		}
		m := impl.Mate{Name: "a", Up: true, Clock: 50, Known: true, Seen: 1, Wants: wants, Runs: numbered(n, stopping)}
		next, _ := checkMateTick(t, m, 1, noNote)
		checkMateValid(t, "with many runs", next, true)
		var want []impl.MateRun
		for i, w := range wants {
			if n+i < 20 {
				want = append(want, impl.MateRun{Want: w, State: impl.MatePulling, Left: w.Pull})
			}
		}
		got := slices.DeleteFunc(slices.Clone(next.Runs), func(r impl.MateRun) bool { return r.State == impl.MateStopping })
		if !slices.Equal(got, want) || len(next.Runs) != n+len(want) {
			t.Errorf("with %d before: %s", n, tellMate(next))
		}
		// Those that go make room in the same tick.
		for _, last := range []int{0, n - 1} {
			m.Runs = numbered(n, stopping)
			m.Runs[last].Left = 1
			next, _ = checkMateTick(t, m, 1, noNote)
			if len(next.Runs) != min(20, n-1+3) {
				t.Errorf("with %d before, one of which goes: %s", n, tellMate(next))
			}
		}
	}
}

// A copy that goes is there anew in the same tick, if it is wanted, with nothing of what it was.
func TestMateBeginsAnew(t *testing.T) {
	old := impl.MateWant{Copy: "c", Version: 1, Hold: "v", Pull: 1, Start: 1, Grace: 1}
	for _, run := range []impl.MateRun{
		{Want: old, State: impl.MatePulling, Left: 100, Until: 9},
		{Want: old, State: impl.MateWaiting, Falls: 3, Until: 90},
		{Want: old, State: impl.MateBackoff, Left: 4, Falls: 1000, Until: 66},
		{Want: old, State: impl.MateStopping, Left: 1, Falls: 7, Until: 66},
	} {
		anew := old
		anew.Version, anew.Pull = 2, 4
		m := impl.Mate{Name: "a", Up: true, Clock: 50, Known: true, Seen: 1, Wants: []impl.MateWant{anew}, Runs: []impl.MateRun{run}}
		next, sent := checkMateTick(t, m, 1, noNote)
		if want := []impl.MateRun{{Want: anew, State: impl.MatePulling, Left: 4}}; !slices.Equal(next.Runs, want) || tellSent(sent) != "asked v c 51, here 1" {
			t.Errorf("%+v: %+v > %s", run, next, tellSent(sent))
		}
		// With an ask it gives back first.
		m.Asks = []impl.MateAsk{{Hold: "v", Copy: "c", First: 40, At: 50}}
		next, sent = checkMateTick(t, m, 1, noNote)
		if tellMate(next) != "51 [c1/4@0] asks [] gives [v=c:40-50]" || tellSent(sent) != "back v c 50, here 1" {
			t.Errorf("%+v: %s > %s", run, tellMate(next), tellSent(sent))
		}
	}
	// What stops, and is wanted just as it was, is stopped to its end, and then there anew.
	m := impl.Mate{Name: "a", Up: true, Clock: 50, Known: true, Seen: 1, Wants: []impl.MateWant{old}, Runs: []impl.MateRun{{Want: old, State: impl.MateStopping, Left: 2, Falls: 7, Until: 66}}}
	x := &mateTale{t, m}
	x.tick(1, "51 [c6/1@66] asks [v=c:51-51] gives []", "asked v c 51, here 1")
	x.tick(1, "52 [c1/1@0] asks [] gives [v=c:51-51]", "back v c 51, here 1")
}

// A new word is one with a greater number, or any if none is known; numbers and wants must be such.
func TestMateHears(t *testing.T) {
	for _, known := range []bool{true, false} {
		for _, seen := range []int{0, 1, 2, 7, 999999, 1000000} {
			for _, n := range []int{math.MinInt, -1, 0, 1, 2, 3, 6, 7, 8, 999998, 999999, 1000000, 1000001, math.MaxInt} {
				for _, wants := range [][]impl.MateWant{nil, severalWants()} {
					m := impl.Mate{Name: "a", Up: true, Clock: 50, Known: known, Seen: seen}
					if known {
						m.Wants = []impl.MateWant{wantOf("c", "v")}
					}
					got := checkMateTake(t, m, toldTo(n, wants...), noNote)
					heard := n >= 1 && n <= 1000000 && (n > seen || !known)
					want := m
					if heard {
						want.Known, want.Seen, want.Wants = true, n, wants
					}
					if !reflect.DeepEqual(plainMate(got), plainMate(want)) {
						t.Errorf("known %v, seen %d, told %d: %+v", known, seen, n, got)
					}
				}
			}
		}
	}
}

func TestMateHearsNoOtherWants(t *testing.T) {
	heard := func(known bool, wants []impl.MateWant) bool {
		t.Helper()
		m := impl.Mate{Name: "a", Up: true, Clock: 50, Known: known, Seen: 3}
		got := checkMateTake(t, m, toldTo(4, wants...), noNote)
		if got.Seen != 4 && !reflect.DeepEqual(plainMate(got), m) {
			t.Errorf("told %+v it is %+v", wants, got)
		}
		return got.Seen == 4 && got.Known && reflect.DeepEqual(got.Wants, wants)
	}
	for _, known := range []bool{true, false} {
		for _, c := range allWantChanges() {
			list := []impl.MateWant{wantOf("c", "h")}
			c.change(&list[0])
			if heard(known, list) != c.ok {
				t.Errorf("%s: it is heard: %v", c.what, !c.ok)
			}
		}
		for _, n := range []int{9, 10, 11, 20, 21} {
			if heard(known, numbered(n, func(name string) impl.MateWant { return wantOf(name, "") })) != (n <= 10) {
				t.Errorf("%d wants: it is heard: %v", n, n > 10)
			}
		}
		if heard(known, []impl.MateWant{wantOf("b", ""), wantOf("a", "")}) || heard(known, []impl.MateWant{wantOf("a", ""), wantOf("a", "")}) || heard(known, []impl.MateWant{wantOf("a", "v"), wantOf("b", "v")}) {
			t.Error("wants that are not ok are heard")
		}
	}
}

// What is given counts from the First of the ask to its At, for its copy and its hold.
func TestMateGivenForWhichAsk(t *testing.T) {
	for _, c := range [][2]int{{0, 0}, {0, 1}, {30, 44}, {44, 44}, {49, 50}, {50, 50}, {0, 50}} {
		first, last := c[0], c[1]
		for _, at := range []int{math.MinInt, -1, 0, 1, 29, 30, 31, 43, 44, 45, 49, 50, 51, 1000000, math.MaxInt - 16, math.MaxInt - 15, math.MaxInt} {
			m := impl.Mate{Name: "a", Up: true, Clock: 50, Known: true, Seen: 1}
			m.Runs = []impl.MateRun{{Want: wantOf("b", "u"), State: impl.MateWaiting}, {Want: wantOf("c", "v"), State: impl.MateWaiting}, {Want: wantOf("d", "v"), State: impl.MateWaiting}, {Want: wantOf("e", ""), State: impl.MateReady}}
			m.Asks = []impl.MateAsk{{Hold: "v", Copy: "c", First: first, At: last}}
			got := checkMateTake(t, m, givenTo("v", "c", at), noNote)
			want := plainMate(m)
			if at >= first && at <= last {
				want.Runs[1].Until = at + 16
			}
			if !reflect.DeepEqual(plainMate(got), want) {
				t.Errorf("asked from %d to %d, given %d: %s", first, last, at, tellMate(got))
			}
			for _, other := range []impl.MateParcel{givenTo("v", "d", at), givenTo("u", "b", at), givenTo("u", "c", at), givenTo("v", "", at), givenTo("", "c", at), givenTo("", "e", at), givenTo("*", "c", at), givenTo("v", "*", at)} {
				(&mateTale{t, m}).takesNot(other)
			}
		}
	}
	// The run must have that hold, too: its copy alone does not do.
	m := impl.Mate{Name: "a", Up: true, Clock: 50, Known: true, Seen: 1, Runs: []impl.MateRun{{Want: wantOf("c", "w"), State: impl.MateWaiting}, {Want: wantOf("d", "v"), State: impl.MateWaiting}}, Asks: []impl.MateAsk{{Hold: "v", Copy: "c", First: 40, At: 50}}}
	(&mateTale{t, m}).takesNot(givenTo("v", "c", 50))
	// With no run of the copy nothing happens.
	m.Runs = nil
	(&mateTale{t, m}).takesNot(givenTo("v", "c", 50))
}

// A lease only grows: up to the ask's clock and MateLease.
func TestMateGivenGrows(t *testing.T) {
	for _, clock := range []int{50, 1000000} {
		for state := 1; state <= 6; state++ {
			for at := clock - 12; at <= clock; at++ {
				for until := clock + 4; until <= clock+16; until++ {
					m := impl.Mate{Name: "a", Up: true, Clock: clock, Known: true, Seen: 1}
					m.Runs = []impl.MateRun{{Want: wantOf("c", "v"), State: state, Falls: 5, Until: until}}
					m.Asks = []impl.MateAsk{{Hold: "v", Copy: "c", First: clock - 12, At: clock}}
					got := checkMateTake(t, m, givenTo("v", "c", at), noNote)
					want := plainMate(m)
					want.Runs[0].Until = max(until, at+16)
					if !reflect.DeepEqual(plainMate(got), want) {
						t.Errorf("with a lease up to %d, given %d: %s", until, at, tellMate(got))
					}
				}
			}
		}
	}
}

func TestMateGotBack(t *testing.T) {
	m := fullMate()
	for i, g := range m.Gives {
		for _, at := range []int{math.MinInt, -1, g.At - 1, g.At, g.At + 1, g.First - 1, 50, 51, math.MaxInt} {
			got := checkMateTake(t, m, gotBackTo(g.Hold, at), noNote)
			want := plainMate(m)
			if at == g.At {
				want.Gives = slices.Delete(want.Gives, i, i+1)
			}
			if !reflect.DeepEqual(plainMate(got), want) {
				t.Errorf("%s is back at %d: %s", g.Hold, at, tellMate(got))
			}
		}
	}
	for _, a := range m.Asks {
		(&mateTale{t, m}).takesNot(gotBackTo(a.Hold, a.At))
	}
	for _, hold := range []string{"", "*", "x", "F", "kk", "\n"} {
		(&mateTale{t, m}).takesNot(gotBackTo(hold, 0))
		(&mateTale{t, m}).takesNot(gotBackTo(hold, 9))
	}
}

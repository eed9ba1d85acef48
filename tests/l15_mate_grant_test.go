package tests

import (
	"fmt"
	"math"
	"reflect"
	"slices"
	"strings"
	"testing"

	"loop.example/wharffleet/impl"
)

func TestMateLandNumbers(t *testing.T) {
	if impl.MateMaxBerths != 4 {
		t.Error(impl.MateMaxBerths)
	}
}

// tellLand is a book's time, its grants (hold, berth, copy, ask, end) and its places (berth, number, and each copy with its hold).
func tellLand(l impl.MateLand) string {
	var grants, places []string
	for _, g := range l.Grants {
		grants = append(grants, fmt.Sprintf("%s=%s/%s@%d<%d", g.Hold, g.Berth, g.Copy, g.At, g.Until))
	}
	for _, p := range l.Places {
		var wants []string
		for _, w := range p.Wants {
			wants = append(wants, w.Copy+"="+w.Hold)
		}
		places = append(places, fmt.Sprintf("%s%d(%s)", p.Berth, p.Seen, strings.Join(wants, " ")))
	}
	return fmt.Sprintf("%d [%s] %s", l.Time, strings.Join(grants, " "), strings.Join(places, " "))
}

// tellWords are the forms of parcels, in one line.
func tellWords(list []impl.MateParcel) string {
	var told []string
	for _, p := range list {
		told = append(told, strings.ReplaceAll(strings.TrimSuffix(modelForm(p), "\n"), "\n", ", "))
	}
	return strings.Join(told, "; ")
}

// landTale is a book to which one thing is done behind the other, each held against the second reading.
type landTale struct {
	t *testing.T
	l impl.MateLand
}

func (x *landTale) is(want string) {
	x.t.Helper()
	if got := tellLand(x.l); got != want {
		x.t.Errorf("the book is\n%s, not\n%s", got, want)
	}
	checkLandOk(x.t, "in a tale", x.l, true)
}

func (x *landTale) put(code int, berth string, wants ...impl.MateWant) {
	x.t.Helper()
	next, got := checkPut(x.t, x.l, berth, wants)
	if got != code {
		x.t.Errorf("MatePut of %s is %d, not %d", berth, got, code)
	}
	x.l = next
}

func (x *landTale) tick(want string) {
	x.t.Helper()
	next, sent := checkLandTick(x.t, x.l)
	if got := tellWords(sent); got != want {
		x.t.Errorf("at %d it tells %q, not %q", next.Time, got, want)
	}
	x.l = next
}

// ticks goes on until the time is so much.
func (x *landTale) ticks(time int) {
	x.t.Helper()
	for x.l.Time < time {
		x.l, _ = checkLandTick(x.t, x.l)
	}
}

func (x *landTale) take(p impl.MateParcel, want string) {
	x.t.Helper()
	next, sent := checkLandTake(x.t, x.l, p, noNote)
	if got := tellWords(sent); got != want {
		x.t.Errorf("%s is answered %q, not %q", tellWords([]impl.MateParcel{p}), got, want)
	}
	x.l = next
}

// takesNot takes a parcel that changes nothing, and is not answered.
func (x *landTale) takesNot(p impl.MateParcel) {
	x.t.Helper()
	before := plainLand(x.l)
	if x.take(p, ""); !reflect.DeepEqual(plainLand(x.l), before) {
		x.t.Errorf("behind %+v the book is\n%s, not\n%s", p, tellLand(x.l), tellLand(before))
	}
}

func askedBy(berth, hold, copy string, at int) impl.MateParcel {
	return impl.MateParcel{Kind: impl.MateAsked, Berth: berth, Hold: hold, Copy: copy, At: at}
}

func backOf(berth, hold, copy string, at int) impl.MateParcel {
	return impl.MateParcel{Kind: impl.MateBack, Berth: berth, Hold: hold, Copy: copy, At: at}
}

// A place is put, told at each tick, and put anew; each place has its own number.
func TestMateLandPlaces(t *testing.T) {
	x := &landTale{t, impl.MateLand{}}
	x.tick("")
	x.put(0, "b", wantOf("y", "w"))
	x.is("2 [] b1(y=w)")
	x.tick("told b 1, want y 1 w 0 0 0 0")
	x.tick("told b 1, want y 1 w 0 0 0 0")
	x.put(0, "a", severalWants()...)
	x.put(0, "c")
	x.is("6 [] a1(api=vol batch= cache=disk db=) b1(y=w) c1()")
	x.tick("told a 1, want api 1 vol 3 2 9 4, want batch 7 * 0 0 0 0, want cache 1000000 disk 100 100 100 100, want db 2 * 0 0 0 1; told b 1, want y 1 w 0 0 0 0; told c 1")
	x.put(0, "b", wantOf("y", "w"), wantOf("z", "v"))
	x.put(0, "b", wantOf("z", "w"))
	x.put(0, "a")
	x.is("8 [] a2() b3(z=w) c1()")
	x.tick("told a 2; told b 3, want z 1 w 0 0 0 0; told c 1")
	// The same wants are a new word all the same.
	x.put(0, "c")
	x.tick("told a 2; told b 3, want z 1 w 0 0 0 0; told c 2")
	x.is("12 [] a2() b3(z=w) c2()")
}

// A hold is asked for, given, asked for anew in time, given back, and given to another berth.
func TestMateLandGrant(t *testing.T) {
	x := &landTale{t, impl.MateLand{Time: 10}}
	x.put(0, "a", wantOf("x", "v"))
	x.take(askedBy("a", "v", "x", 7), "given a v x 7")
	x.is("10 [v=a/x@7<42] a1(x=v)")
	x.ticks(16)
	x.take(askedBy("a", "v", "x", 13), "given a v x 13")
	x.is("16 [v=a/x@13<48] a1(x=v)")
	// The wants change: the grant stays until it is back.
	x.put(0, "a")
	x.put(0, "b", wantOf("x", "v"))
	x.takesNot(askedBy("b", "v", "x", 500))
	x.takesNot(askedBy("a", "v", "x", 19))
	x.take(backOf("a", "v", "x", 13), "gotback a v 13")
	x.is("16 [] a2() b1(x=v)")
	x.take(askedBy("b", "v", "x", 1), "given b v x 1")
	x.take(backOf("a", "v", "x", 13), "gotback a v 13")
	x.is("16 [v=b/x@1<48] a2() b1(x=v)")
}

// One that is not given back is given to another berth when its time is over, and not before.
func TestMateLandGrantIsOver(t *testing.T) {
	x := &landTale{t, impl.MateLand{Time: 10}}
	x.put(0, "a", wantOf("x", "v"))
	x.take(askedBy("a", "v", "x", 7), "given a v x 7")
	x.put(0, "a")
	x.put(0, "b", wantOf("x", "v"))
	for x.l.Time < 42 {
		x.takesNot(askedBy("b", "v", "x", x.l.Time))
		x.tick("told a 2; told b 1, want x 1 v 0 0 0 0")
	}
	x.is("42 [v=a/x@7<42] a2() b1(x=v)")
	x.take(askedBy("b", "v", "x", 3), "given b v x 3")
	x.is("42 [v=b/x@3<74] a2() b1(x=v)")
	// What was given to the first comes back late: it is answered, and nothing else.
	x.take(backOf("a", "v", "x", 99), "gotback a v 99")
	x.takesNot(askedBy("a", "v", "x", 99))
	x.is("42 [v=b/x@3<74] a2() b1(x=v)")
}

// Two berths want one hold one after the other, and again.
func TestMateLandInTurn(t *testing.T) {
	x := &landTale{t, impl.MateLand{}}
	x.put(0, "a")
	x.put(0, "b")
	for i := range 6 {
		one, other := []string{"a", "b"}[i%2], []string{"b", "a"}[i%2]
		x.put(0, one, wantOf("x", "v"))
		x.put(3, other, wantOf("y", "v"))
		x.takesNot(askedBy(other, "v", "x", i))
		x.take(askedBy(one, "v", "x", 10*i), fmt.Sprintf("given %s v x %d", one, 10*i))
		x.ticks(x.l.Time + 6)
		x.take(askedBy(one, "v", "x", 10*i+6), fmt.Sprintf("given %s v x %d", one, 10*i+6))
		x.put(0, one)
		if i%3 == 0 {
			x.ticks(x.l.Time + 32)
		} else {
			x.take(backOf(one, "v", "x", 10*i+6), fmt.Sprintf("gotback %s v %d", one, 10*i+6))
		}
	}
}

// An ask is given on a grant of the same berth and copy if it is not older, on any other grant if that is over.
func TestMateLandAsks(t *testing.T) {
	for _, until := range []int{0, 99, 100, 101, 102, 132} {
		for _, berth := range []string{"a", "b"} {
			for _, copy := range []string{"x", "y"} {
				for _, at := range []int{0, 49, 50, 51, 1000000} {
					l := impl.MateLand{Time: 100, Grants: []impl.MateGrant{{Hold: "v", Berth: berth, Copy: copy, At: 50, Until: until}}}
					l.Places = []impl.MatePlace{{Berth: "a", Seen: 1, Wants: []impl.MateWant{wantOf("x", "v"), wantOf("y", "w")}}, {Berth: "b", Seen: 1}}
					next, sent := checkLandTake(t, l, askedBy("a", "v", "x", at), noNote)
					want, wantSent := l.Grants[0], ""
					if until <= 100 || berth == "a" && copy == "x" && at >= 50 {
						want, wantSent = impl.MateGrant{Hold: "v", Berth: "a", Copy: "x", At: at, Until: 132}, fmt.Sprintf("given a v x %d", at)
					}
					if !slices.Equal(next.Grants, []impl.MateGrant{want}) || tellWords(sent) != wantSent {
						t.Errorf("%s, of %s for %s, until %d, asked for at %d: %s > %s", "v", berth, copy, until, at, tellLand(next), tellWords(sent))
					}
				}
			}
		}
	}
}

// What is given back is gone if it is of this berth, and not of a later ask; whichever copy it names, and whether its time is over or not. It is answered in each case, and also if nothing was given or wanted.
func TestMateLandBacks(t *testing.T) {
	for _, until := range []int{0, 100, 132} {
		for _, berth := range []string{"a", "b", "elsewhere"} {
			for _, copy := range []string{"x", "y", "z"} {
				for _, hold := range []string{"v", "w", "u"} {
					for _, at := range []int{0, 49, 50, 51, 1000000} {
						l := impl.MateLand{Time: 100, Grants: []impl.MateGrant{{Hold: "v", Berth: "a", Copy: "x", At: 50, Until: until}, {Hold: "w", Berth: "b", Copy: "y", At: 50, Until: 132}}}
						l.Places = []impl.MatePlace{{Berth: "b", Seen: 1, Wants: []impl.MateWant{wantOf("x", "v")}}}
						next, sent := checkLandTake(t, l, backOf(berth, hold, copy, at), noNote)
						want := slices.DeleteFunc(slices.Clone(l.Grants), func(g impl.MateGrant) bool { return g.Hold == hold && g.Berth == berth && at >= 50 })
						if !slices.Equal(next.Grants, want) || tellWords(sent) != fmt.Sprintf("gotback %s %s %d", berth, hold, at) {
							t.Errorf("%s of %s for %s, at %d: %s > %s", hold, berth, copy, at, tellLand(next), tellWords(sent))
						}
					}
				}
			}
		}
	}
}

// A place must want just this copy with just this hold.
func TestMateLandGivesWhatIsWanted(t *testing.T) {
	l := impl.MateLand{Time: 100, Places: []impl.MatePlace{
		{Berth: "a", Seen: 1, Wants: []impl.MateWant{wantOf("x", "v"), wantOf("y", "w"), wantOf("z", "")}},
		{Berth: "b", Seen: 1, Wants: []impl.MateWant{wantOf("x", "u"), wantOf("z", "t")}},
	}}
	given := 0
	for _, berth := range []string{"a", "b", "c", "A", "aa"} {
		for _, copy := range []string{"x", "y", "z", "v", "X"} {
			for _, hold := range []string{"t", "u", "v", "w", "x", "V", "vv"} {
				next, sent := checkLandTake(t, l, askedBy(berth, hold, copy, 5), noNote)
				if wanted := slices.Contains([]string{"a x v", "a y w", "b x u", "b z t"}, berth+" "+copy+" "+hold); wanted != (len(sent) == 1) || wanted != (len(next.Grants) == 1) {
					t.Errorf("%s asks for %s for %s: %s", berth, hold, copy, tellLand(next))
				}
				given += len(sent)
			}
		}
	}
	if given != 4 {
		t.Error(given)
	}
	// The version and the other numbers of the want don't matter.
	l.Places[0].Wants[0] = impl.MateWant{Copy: "x", Version: 77, Hold: "v", Pull: 1, Start: 2, Dies: 3, Grace: 4}
	if _, sent := checkLandTake(t, l, askedBy("a", "v", "x", 0), noNote); len(sent) != 1 {
		t.Error(sent)
	}
}

func TestMateLandAtLimits(t *testing.T) {
	l := impl.MateLand{Places: []impl.MatePlace{{Berth: "a", Seen: 1, Wants: []impl.MateWant{wantOf("x", "v")}}}}
	for _, at := range []int{math.MinInt, -1000000, -1, 0, 1, 999999, 1000000, 1000001, math.MaxInt} {
		n := map[bool]int{true: 1}[at >= 0 && at <= 1000000]
		if next, sent := checkLandTake(t, l, askedBy("a", "v", "x", at), noNote); len(sent) != n || len(next.Grants) != n {
			t.Errorf("asked for at %d: %s", at, tellLand(next))
		}
		held := l
		held.Grants = []impl.MateGrant{{Hold: "v", Berth: "a", Copy: "x"}}
		if next, sent := checkLandTake(t, held, backOf("a", "v", "x", at), noNote); len(sent) != n || len(next.Grants) != 1-n {
			t.Errorf("back at %d: %s", at, tellLand(next))
		}
	}
}

// With MateMaxHolds grants there is room for one more only if some are over: then all of these go. What replaces another needs no room, and nothing goes for it.
func TestMateLandGrantsAreFew(t *testing.T) {
	for _, n := range []int{0, 1, 38, 39, 40} {
		for _, over := range [][]int{nil, {0}, {7}, {39}, {0, 1, 2, 3, 20, 39}} {
			l := impl.MateLand{Time: 100, Grants: grantsCalled(n, "h")}
			l.Places = []impl.MatePlace{{Berth: "a", Seen: 1, Wants: []impl.MateWant{wantOf("x", "hn000x"), wantOf("y", "a"), wantOf("z", "z")}}}
			gone := 0
			for i := range l.Grants {
				if l.Grants[i].Until = 101; slices.Contains(over, i) {
					l.Grants[i].Until = 100
					gone++
				}
			}
			for _, w := range l.Places[0].Wants {
				next, sent := checkLandTake(t, l, askedBy("a", w.Hold, w.Copy, 1), noNote)
				want := n + 1
				switch {
				case n == 40 && gone == 0:
					want = 40
				case n == 40:
					want = 41 - gone
				}
				at := slices.IndexFunc(next.Grants, func(g impl.MateGrant) bool { return g.Hold == w.Hold })
				if len(next.Grants) != want || (at < 0) != (n == 40 && gone == 0) || (len(sent) == 0) != (at < 0) {
					t.Errorf("%d grants, %d of them over: %s", n, gone, tellLand(next))
				}
				checkLandOk(t, "with many grants", next, true)
			}
		}
	}
}

func TestMateLandFullRenews(t *testing.T) {
	l := impl.MateLand{Time: 100, Grants: grantsCalled(40, "h"), Places: []impl.MatePlace{{Berth: "b", Seen: 1}}}
	for i := range l.Grants {
		if l.Grants[i].Until = 101; i%2 == 1 {
			l.Grants[i].Until = 99
		}
	}
	l.Places[0].Wants = []impl.MateWant{wantOf("y", "hn009"), wantOf("z", "hn008")}
	for _, c := range []struct {
		p    impl.MateParcel
		want string
	}{{askedBy("b", "hn008", "z", 3), "given b hn008 z 3"}, {askedBy("b", "hn008", "z", 2), ""}, {askedBy("b", "hn009", "y", 2), "given b hn009 y 2"}} {
		next, sent := checkLandTake(t, l, c.p, noNote)
		if tellWords(sent) != c.want || len(next.Grants) != 40 {
			t.Errorf("%+v: %s > %s", c.p, tellLand(next), tellWords(sent))
		}
	}
}

// The time ends: there nothing happens at a tick, and nothing is told; parcels are taken on.
func TestMateLandEnd(t *testing.T) {
	x := &landTale{t, impl.MateLand{Time: 1999996}}
	x.put(0, "a", wantOf("x", "v"))
	x.tick("told a 1, want x 1 v 0 0 0 0")
	x.tick("told a 1, want x 1 v 0 0 0 0")
	x.is("2000000 [] a1(x=v)")
	x.tick("")
	x.tick("")
	x.take(askedBy("a", "v", "x", 1000000), "given a v x 1000000")
	x.put(0, "b", wantOf("y", ""))
	x.is("2000000 [v=a/x@1000000<2000032] a1(x=v) b1(y=)")
	x.tick("")
	x.take(backOf("a", "v", "x", 1000000), "gotback a v 1000000")
	x.is("2000000 [] a1(x=v) b1(y=)")
	for _, time := range []int{2000002, 2000001, 1999999, 1, -2, math.MaxInt, math.MinInt} {
		l := fullLand()
		l.Time = time
		if next, sent := checkLandTick(t, l); !reflect.DeepEqual(plainLand(next), impl.MateLand{}) || len(sent) != 0 {
			t.Errorf("time %d: %s", time, tellLand(next))
		}
	}
}

func TestMatePutCodes(t *testing.T) {
	four := impl.MateLand{Time: 4, Places: numbered(4, func(name string) impl.MatePlace { return impl.MatePlace{Berth: name, Seen: 1} })}
	four.Places[1].Wants = []impl.MateWant{wantOf("x", "v"), wantOf("y", "")}
	four.Places[2].Seen = 1000000
	four.Places[3].Seen = 999999
	held, free, bad := []impl.MateWant{wantOf("z", "v")}, []impl.MateWant{wantOf("z", "w")}, []impl.MateWant{wantOf("z", "v"), wantOf("y", "")}
	for _, c := range []struct {
		berth string
		wants []impl.MateWant
		code  int
	}{
		{"n000", nil, 0}, {"n000", free, 0}, {"n000", held, 3}, {"n000", bad, 2},
		{"n001", held, 0}, {"n001", nil, 0}, {"n001", four.Places[1].Wants, 0}, {"n001", bad, 2},
		{"n002", nil, 3}, {"n002", free, 3}, {"n002", held, 3}, {"n002", bad, 2},
		{"n003", nil, 0}, {"n003", free, 0},
		{"n004", nil, 3}, {"a", nil, 3}, {"a", held, 3}, {"a", bad, 2},
		{"", nil, 2}, {"", held, 2}, {"", bad, 2}, {"x y", nil, 2}, {strings.Repeat("x", 21), nil, 2}, {strings.Repeat("x", 20), nil, 3}, {"*", nil, 3}, {"\x7f", nil, 2}, {" ", free, 2},
	} {
		next, code := checkPut(t, four, c.berth, c.wants)
		if code != c.code || code != 0 && !reflect.DeepEqual(plainLand(next), plainLand(four)) {
			t.Errorf("%q, %v: %s, %d, not %d", c.berth, c.wants, tellLand(next), code, c.code)
		}
		// In a book that is not ok all of them have its code.
		odd := four
		odd.Time = 5
		if next, code := checkPut(t, odd, c.berth, c.wants); code != 1 || !reflect.DeepEqual(plainLand(next), impl.MateLand{}) {
			t.Errorf("%q, %v: %s, %d", c.berth, c.wants, tellLand(next), code)
		}
	}
	// With fewer places there is room.
	three := four
	three.Places = four.Places[:3]
	for _, berth := range []string{"*", "a", "n0005", "n004", "z", strings.Repeat("~", 20)} {
		if next, code := checkPut(t, three, berth, free); code != 0 || len(next.Places) != 4 {
			t.Errorf("%s: %s, %d", berth, tellLand(next), code)
		}
	}
}

// Each want is held to what is ok, also where it would change nothing else.
func TestMatePutOfEachWant(t *testing.T) {
	for _, c := range allWantChanges() {
		wants := []impl.MateWant{wantOf("q", "its")}
		c.change(&wants[0])
		for _, berth := range []string{"a", "b", "new"} {
			_, code := checkPut(t, impl.MateLand{Places: []impl.MatePlace{{Berth: "b", Seen: 1}}}, berth, wants)
			if (code == 0) != c.ok || code == 1 || code == 3 {
				t.Errorf("%s: %d", c.what, code)
			}
		}
	}
	for _, n := range []int{9, 10, 11, 500} {
		wants := numbered(n, func(name string) impl.MateWant { return wantOf(name, name) })
		if _, code := checkPut(t, impl.MateLand{}, "a", wants); (code == 0) != (n <= 10) {
			t.Errorf("%d wants: %d", n, code)
		}
	}
}

// Grants stay as they are when places are put, whatever these want.
func TestMatePutLeavesGrants(t *testing.T) {
	l := fullLand()
	for _, berth := range []string{"a", "c", "d", "*"} {
		next, code := checkPut(t, l, berth, []impl.MateWant{wantOf("k", "other")})
		if code != 0 || !slices.Equal(next.Grants, l.Grants) || next.Time != l.Time {
			t.Errorf("%s: %s, %d", berth, tellLand(next), code)
		}
	}
}

// Each part of a parcel that is none, for each kind: nothing changes, and nothing is answered.
func TestMateLandTakesNoOther(t *testing.T) {
	x := &landTale{t, fullLand()}
	for _, p := range toBook() {
		if _, sent := checkLandTake(t, x.l, p, noNote); len(sent) != 1 {
			t.Errorf("%+v is not answered", p)
		}
		for _, name := range append(notNames(), "*") {
			wrong := p
			wrong.Hold = name
			x.takesNot(wrong)
		}
		for _, name := range notNames() {
			wrong := p
			wrong.Berth = name
			x.takesNot(wrong)
			wrong = p
			wrong.Copy = name
			x.takesNot(wrong)
		}
		for _, at := range []int{math.MinInt, -1, 1000001, math.MaxInt} {
			wrong := p
			wrong.At = at
			x.takesNot(wrong)
		}
		for _, kind := range []int{1, 3, 5, 6, 0, 7, -1, -2, -4, math.MinInt, math.MaxInt} {
			wrong := p
			wrong.Kind = kind
			x.takesNot(wrong)
			wrong.Seen, wrong.Wants = 5, severalWants()
			x.takesNot(wrong)
		}
	}
}

// A book whose place wants what has no name, or the hold that is none, can't be; so none of them is ever wanted. But names that look like it are.
func TestMateLandNames(t *testing.T) {
	for _, name := range theirNames() {
		x := &landTale{t, impl.MateLand{}}
		x.put(0, name, impl.MateWant{Copy: name, Version: 1, Hold: name})
		x.take(askedBy(name, name, name, 0), strings.Join([]string{"given", name, name, name, "0"}, " "))
		x.take(backOf(name, name, name, 0), strings.Join([]string{"gotback", name, name, "0"}, " "))
		if len(x.l.Grants) != 0 {
			t.Errorf("%q: %s", name, tellLand(x.l))
		}
	}
	x := &landTale{t, impl.MateLand{}}
	x.put(0, "*", impl.MateWant{Copy: "*", Version: 1})
	x.takesNot(askedBy("*", "*", "*", 0))
	x.takesNot(askedBy("*", "", "*", 0))
	x.put(2, "*", impl.MateWant{Copy: "*", Version: 1, Hold: "*"})
	x.put(0, "*", impl.MateWant{Copy: "*", Version: 1, Hold: "v"})
	x.take(askedBy("*", "v", "*", 0), "given * v * 0")
}

// What a parcel's kind does not use does not matter, and is not in the answer.
func TestMateLandTakesWhatIsUsed(t *testing.T) {
	l := fullLand()
	for _, p := range toBook() {
		want, wantSent := checkLandTake(t, l, p, noNote)
		p.Seen, p.Wants = -7, []impl.MateWant{{Copy: "x y"}}
		next, sent := checkLandTake(t, l, p, noNote)
		if !reflect.DeepEqual(plainLand(next), plainLand(want)) || !sameParcels(sent, wantSent) || len(sent) != 1 {
			t.Errorf("%+v: %s > %s", p, tellLand(next), tellWords(sent))
		}
	}
}

// Each kind to a berth without a place: only what is given back is answered.
func TestMateLandWithoutPlace(t *testing.T) {
	for kind := -1; kind <= 8; kind++ {
		l := fullLand()
		p := impl.MateParcel{Kind: kind, Berth: "nowhere", Seen: 1, Wants: severalWants(), Hold: "new", Copy: "y", At: 5}
		next, sent := checkLandTake(t, l, p, noNote)
		want := map[bool]string{true: "gotback nowhere new 5"}[kind == impl.MateBack]
		if tellWords(sent) != want || !reflect.DeepEqual(plainLand(next), plainLand(l)) {
			t.Errorf("kind %d: %s > %s", kind, tellLand(next), tellWords(sent))
		}
	}
}

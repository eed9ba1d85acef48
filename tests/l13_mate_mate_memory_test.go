package tests

import (
	"math/rand"
	"reflect"
	"slices"
	"strings"
	"testing"

	"loop.example/wharffleet/impl"
)

// greatMate has the most of all, each with the greatest names and numbers: runs of all wants and as many of none.
func greatMate() impl.Mate {
	long := func(name string) string { return (name + strings.Repeat("~", 20))[:20] }
	want := func(name string) impl.MateWant {
		return impl.MateWant{Copy: long(name), Version: 1000000, Hold: long("h" + name), Pull: 100, Start: 100, Dies: 100, Grace: 100}
	}
	ask := func(name string) impl.MateAsk {
		return impl.MateAsk{Hold: long("h" + name), Copy: long(name), First: 999000, At: 999990}
	}
	m := impl.Mate{Name: long("mate"), Up: true, Clock: 999996, Known: true, Seen: 1000000, Wants: numbered(10, want)}
	m.Runs = numbered(20, func(name string) impl.MateRun {
		return impl.MateRun{Want: want(name), State: impl.MateReady, Left: 100, Falls: 1000, Until: 1000016}
	})
	m.Asks = numbered(40, ask)
	for _, g := range numbered(40, ask) {
		g.Hold = "k" + g.Hold[1:]
		m.Gives = append(m.Gives, g)
	}
	return m
}

func TestMateGreat(t *testing.T) {
	m := greatMate()
	checkMateValid(t, "a great one", m, true)
	next, sent := checkMateTick(t, m, 4, noNote)
	checkMateValid(t, "a great one behind a tick", next, true)
	if len(next.Runs) != 20 || len(sent) != 10+40+1 || next.Clock != 1000000 || next.Runs[9].State != impl.MateReady || next.Runs[9].Left != 99 || next.Runs[10].State != impl.MateStopping || next.Runs[10].Left != 100 {
		t.Errorf("%+v, %d parcels", next, len(sent))
	}
	for _, a := range next.Asks[:10] {
		next = checkMateTake(t, next, impl.MateParcel{Kind: impl.MateGiven, Berth: m.Name, Hold: a.Hold, Copy: a.Copy, At: a.At}, noNote)
	}
	for _, g := range m.Gives {
		next = checkMateTake(t, next, impl.MateParcel{Kind: impl.MateGotBack, Berth: m.Name, Hold: g.Hold, At: g.At}, noNote)
	}
	checkMateValid(t, "a great one that has heard", next, true)
	if len(next.Gives) != 0 || next.Runs[9].Until != 1000016 {
		t.Errorf("%+v", next)
	}
	// All of them go at once, while all are given back: as many are kept as there is room for.
	m.Wants = nil
	m.Gives = m.Gives[:25]
	for i := range m.Runs {
		m.Runs[i].State, m.Runs[i].Left = impl.MateStopping, 1
	}
	next, sent = checkMateTick(t, m, 1, noNote)
	if len(next.Runs) != 0 || len(next.Asks) != 20 || len(next.Gives) != 40 || len(sent) != 41 {
		t.Errorf("%+v, %d parcels", next, len(sent))
	}
	checkMateValid(t, "a great one that has stopped", next, true)
	for _, machine := range []bool{true, false} {
		checkMateValid(t, "a great one that has fallen", checkMateFall(t, greatMate(), machine), true)
	}
}

// mateWithRoom is a mate whose lists have something behind their ends, in the same memory.
func mateWithRoom(m impl.Mate) impl.Mate {
	want, run, ask := severalWants()[0], severalRuns()[0], asksCalled(1, "v")[0]
	m.Wants = append(slices.Clone(m.Wants), want, want)[:len(m.Wants)]
	m.Runs = append(slices.Clone(m.Runs), run, run)[:len(m.Runs)]
	m.Asks = append(slices.Clone(m.Asks), ask, ask)[:len(m.Asks)]
	m.Gives = append(slices.Clone(m.Gives), ask, ask)[:len(m.Gives)]
	return m
}

// wholeMate is a mate with all that is behind the ends of its lists.
func wholeMate(m impl.Mate) impl.Mate {
	m.Wants, m.Runs, m.Asks, m.Gives = m.Wants[:cap(m.Wants)], m.Runs[:cap(m.Runs)], m.Asks[:cap(m.Asks)], m.Gives[:cap(m.Gives)]
	return plainMate(m)
}

// partsOf are all parts of a value that are of a kind.
func partsOf(v reflect.Value, kind reflect.Kind) []reflect.Value {
	var parts []reflect.Value
	switch v.Kind() {
	case kind:
		parts = append(parts, v)
	case reflect.Struct:
		for i := range v.NumField() {
			parts = append(parts, partsOf(v.Field(i), kind)...)
		}
	case reflect.Slice:
		for i := range v.Len() {
			parts = append(parts, partsOf(v.Index(i), kind)...)
		}
	}
	return parts
}

// textsOf are all texts in a value.
func textsOf(v reflect.Value) []string {
	var texts []string
	for _, part := range partsOf(v, reflect.String) {
		texts = append(texts, part.String())
	}
	return texts
}

// checkOwnTexts holds that no two texts of answers are one, nor is one that of an argument.
func checkOwnTexts(t *testing.T, arguments, answers []any) {
	t.Helper()
	var others []string
	for _, a := range arguments {
		others = append(others, textsOf(reflect.ValueOf(a))...)
	}
	for _, a := range answers {
		for _, text := range textsOf(reflect.ValueOf(a)) {
			if slices.ContainsFunc(others, func(other string) bool { return !textsApart(text, other) }) {
				t.Errorf("texts share memory: %+v of %+v", answers, arguments)
				return
			}
			others = append(others, text)
		}
	}
}

func TestMateMemory(t *testing.T) {
	t.Parallel()
	r := rand.New(rand.NewSource(63))
	for i := range 600 {
		m := mateWithRoom(randomMate(r))
		if i < 4 {
			m = mateWithRoom([]impl.Mate{fullMate(), downMate(), greatMate(), {Name: "a", Up: true}}[i])
		}
		if i%10 == 9 { // one that is not valid
			m.Name = ""
		}
		p := randomParcel(r, m)
		if i%3 == 0 {
			p = toldTo(m.Seen%1000000+1, severalWants()...)
			p.Berth = m.Name
		}
		p.Wants = append(p.Wants, severalWants()[:2]...)[:len(p.Wants)]
		before, beforeWants := wholeMate(m), slices.Clone(p.Wants[:cap(p.Wants)])
		arguments := []any{m, p}
		next, sent := impl.MateTick(m, pickOf(r, 0, 1, 2, 3, 4))
		for _, answers := range [][]any{{next, sent}, {impl.MateTake(m, p)}, {impl.MateFall(m, false)}, {impl.MateFall(m, true)}, {impl.MateRise(m)}} {
			checkOwnMemory(t, arguments, answers)
			checkOwnTexts(t, arguments, answers)
		}
		impl.MateValid(m)
		if !reflect.DeepEqual(wholeMate(m), before) || !slices.Equal(p.Wants[:cap(p.Wants)], beforeWants) {
			t.Fatalf("the arguments were %+v, %+v, and are %+v, %+v", before, beforeWants, m, p)
		}
	}
}

// What is written into an answer is not seen in another answer to the same.
func TestMateAnswersAreTheirOwn(t *testing.T) {
	m := fullMate()
	calls := map[string]func() impl.Mate{
		"tick":    func() impl.Mate { next, _ := impl.MateTick(m, 2); return next },
		"no tick": func() impl.Mate { next, _ := impl.MateTick(m, 0); return next },
		"take":    func() impl.Mate { return impl.MateTake(m, toldTo(9, severalWants()...)) },
		"given":   func() impl.Mate { return impl.MateTake(m, givenTo("h", "b", 50)) },
		"back":    func() impl.Mate { return impl.MateTake(m, gotBackTo("k", 9)) },
		"nothing": func() impl.Mate { return impl.MateTake(m, impl.MateParcel{}) },
		"fall":    func() impl.Mate { return impl.MateFall(m, false) },
		"machine": func() impl.Mate { return impl.MateFall(m, true) },
		"rise":    func() impl.Mate { return impl.MateRise(m) },
	}
	for what, call := range calls {
		first, second := call(), call()
		before := plainMate(first)
		for _, list := range [][]impl.MateAsk{second.Asks[:cap(second.Asks)], second.Gives[:cap(second.Gives)]} {
			clear(list)
		}
		clear(second.Wants[:cap(second.Wants)])
		clear(second.Runs[:cap(second.Runs)])
		if !reflect.DeepEqual(plainMate(first), before) || !reflect.DeepEqual(plainMate(m), plainMate(fullMate())) {
			t.Errorf("%s: the answer or the argument has changed", what)
		}
	}
}

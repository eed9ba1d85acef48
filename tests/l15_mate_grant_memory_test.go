package tests

import (
	"fmt"
	"math/rand"
	"reflect"
	"slices"
	"strings"
	"testing"

	"loop.example/wharffleet/impl"
)

// greatLand has the most of all, each with the greatest names and numbers: each hold that is wanted is given.
func greatLand() impl.MateLand {
	long := func(name string) string { return (name + strings.Repeat("~", 20))[:20] }
	l := impl.MateLand{Time: 2000000}
	for i := range 4 {
		place := impl.MatePlace{Berth: long(fmt.Sprint("berth", i)), Seen: 1000000}
		place.Wants = numbered(10, func(name string) impl.MateWant {
			return impl.MateWant{Copy: long(name), Version: 1000000, Hold: long(fmt.Sprint("h", i, name)), Pull: 100, Start: 100, Dies: 100, Grace: 100}
		})
		for _, w := range place.Wants {
			l.Grants = append(l.Grants, impl.MateGrant{Hold: w.Hold, Berth: place.Berth, Copy: w.Copy, At: 1000000, Until: 2000032})
		}
		l.Places = append(l.Places, place)
	}
	return l
}

func TestMateLandGreat(t *testing.T) {
	l := greatLand()
	checkLandOk(t, "a great one", l, true)
	if len(l.Grants) != impl.MateMaxHolds || len(l.Places) != impl.MateMaxBerths {
		t.Fatal(len(l.Grants), len(l.Places))
	}
	if next, sent := checkLandTick(t, l); next.Time != 2000000 || len(sent) != 0 {
		t.Error(tellLand(next))
	}
	for _, g := range l.Grants {
		next, sent := checkLandTake(t, l, askedBy(g.Berth, g.Hold, g.Copy, g.At), noNote)
		if len(sent) != 1 || len(next.Grants) != 40 {
			t.Errorf("%+v: %s", g, tellLand(next))
		}
		next, sent = checkLandTake(t, l, backOf(g.Berth, g.Hold, g.Copy, g.At), noNote)
		if len(sent) != 1 || len(next.Grants) != 39 {
			t.Errorf("%+v: %s", g, tellLand(next))
		}
	}
	for _, p := range l.Places {
		if _, code := checkPut(t, l, p.Berth, nil); code != 3 {
			t.Error(code)
		}
	}
	// Ahead of its end all that is wanted is told, and the same holds are asked for from the first one on.
	l.Time, l.Grants = 1999998, nil
	for i := range l.Places {
		l.Places[i].Seen--
	}
	l, sent := checkLandTick(t, l)
	if len(sent) != 4 || len(sent[3].Wants) != 10 {
		t.Error(tellWords(sent))
	}
	for _, p := range l.Places {
		for _, w := range p.Wants {
			l, sent = checkLandTake(t, l, askedBy(p.Berth, w.Hold, w.Copy, 1000000), noNote)
			if len(sent) != 1 {
				t.Errorf("%+v is not given", w)
			}
		}
	}
	if !reflect.DeepEqual(l.Grants, greatLand().Grants) {
		t.Error(tellLand(l))
	}
	for _, p := range l.Places {
		if l, code := checkPut(t, l, p.Berth, p.Wants); code != 0 || len(l.Grants) != 40 {
			t.Error(code)
		}
	}
	inGoodTime(t, "lists that are far too long", func() {
		long := impl.MateLand{Grants: slices.Repeat(fullLand().Grants[:1], 100000), Places: slices.Repeat(fullLand().Places[:1], 100000)}
		checkLandOk(t, "far too long", long, false)
		if _, code := impl.MatePut(fullLand(), "a", slices.Repeat(severalWants(), 100000)); code != 2 {
			t.Error(code)
		}
	})
}

// landWithRoom is a book whose lists have something behind their ends, in the same memory.
func landWithRoom(l impl.MateLand) impl.MateLand {
	grant, place, want := fullLand().Grants[0], fullLand().Places[0], severalWants()[0]
	l.Grants = append(slices.Clone(l.Grants), grant, grant)[:len(l.Grants)]
	l.Places = append(slices.Clone(l.Places), place, place)[:len(l.Places)]
	for i := range l.Places {
		l.Places[i].Wants = append(slices.Clone(l.Places[i].Wants), want, want)[:len(l.Places[i].Wants)]
	}
	return l
}

// wholeLand is a book with all that is behind the ends of its lists.
func wholeLand(l impl.MateLand) impl.MateLand {
	l.Grants, l.Places = nilIfEmpty(l.Grants[:cap(l.Grants)]), nilIfEmpty(l.Places[:cap(l.Places)])
	for i := range l.Places {
		l.Places[i].Wants = nilIfEmpty(l.Places[i].Wants[:cap(l.Places[i].Wants)])
	}
	return l
}

func TestMateLandMemory(t *testing.T) {
	t.Parallel()
	r := rand.New(rand.NewSource(73))
	for i := range 600 {
		l := randomLand(r)
		if i < 3 {
			l = []impl.MateLand{fullLand(), greatLand(), {}}[i]
		}
		l = landWithRoom(l)
		if i%10 == 9 { // one that is not ok
			l.Time++
		}
		p := randomWord(r, l)
		if i < 30 {
			p = toBook()[i%4]
		}
		p.Wants = severalWants()[:2]
		berth, wants := strings.Clone(pickOf(r, "a", "b", "c", "d", "")), append(fewWants(r, 10), wantOf("behind", "end"))
		wants = wants[:len(wants)-1]
		before, beforeWants, beforeWord := wholeLand(l), slices.Clone(wants[:cap(wants)]), slices.Clone(p.Wants[:cap(p.Wants)])
		arguments := []any{l, p, berth, wants}
		put, _ := impl.MatePut(l, berth, wants)
		ticked, told := impl.MateLandTick(l)
		taken, answers := impl.MateLandTake(l, p)
		for _, answers := range [][]any{{put}, {ticked, told}, {taken, answers}} {
			checkOwnMemory(t, arguments, answers)
			checkOwnTexts(t, arguments, answers)
		}
		impl.MateLandOk(l)
		if !reflect.DeepEqual(wholeLand(l), before) || !slices.Equal(wants[:cap(wants)], beforeWants) || !slices.Equal(p.Wants[:cap(p.Wants)], beforeWord) {
			t.Fatalf("the arguments were %+v, %+v, and are %+v, %+v", before, beforeWants, l, wants)
		}
	}
}

// What is written into an answer is not seen in another answer to the same.
func TestMateLandAnswersAreTheirOwn(t *testing.T) {
	l := fullLand()
	calls := map[string]func() (impl.MateLand, []impl.MateParcel){
		"put": func() (impl.MateLand, []impl.MateParcel) {
			next, _ := impl.MatePut(l, "c", severalWants()[1:2])
			return next, nil
		},
		"not put": func() (impl.MateLand, []impl.MateParcel) {
			next, _ := impl.MatePut(l, "b", severalWants())
			return next, nil
		},
		"no name": func() (impl.MateLand, []impl.MateParcel) { next, _ := impl.MatePut(l, "", nil); return next, nil },
		"tick":    func() (impl.MateLand, []impl.MateParcel) { return impl.MateLandTick(l) },
		"asked":   func() (impl.MateLand, []impl.MateParcel) { return impl.MateLandTake(l, toBook()[0]) },
		"back":    func() (impl.MateLand, []impl.MateParcel) { return impl.MateLandTake(l, toBook()[2]) },
		"nothing": func() (impl.MateLand, []impl.MateParcel) { return impl.MateLandTake(l, impl.MateParcel{}) },
	}
	for what, call := range calls {
		first, sent := call()
		second, others := call()
		before, beforeSent := plainLand(first), tellWords(sent)
		for _, p := range second.Places {
			clear(p.Wants[:cap(p.Wants)])
		}
		for _, p := range others {
			clear(p.Wants[:cap(p.Wants)])
		}
		clear(second.Grants[:cap(second.Grants)])
		clear(second.Places[:cap(second.Places)])
		clear(others[:cap(others)])
		if !reflect.DeepEqual(plainLand(first), before) || tellWords(sent) != beforeSent || !reflect.DeepEqual(plainLand(l), plainLand(fullLand())) {
			t.Errorf("%s: the answer or the argument has changed", what)
		}
	}
}

package tests

import (
	"math"
	"math/rand"
	"reflect"
	"slices"
	"testing"

	"loop.example/wharffleet/impl"
)

// checkPromise21 brings a parcel twice, and tells whether the first time changed anything.
func checkPromise21(t *testing.T, l impl.MateLand, p impl.MateParcel) bool {
	t.Helper()
	once, sent := impl.MateLandTake(l, p)
	twice, again := impl.MateLandTake(once, p)
	if !reflect.DeepEqual(plainLand(twice), plainLand(once)) {
		t.Fatalf("%+v leaves %s\nand when it is brought twice, %s", p, tellLand(once), tellLand(twice))
	}
	// What is taken is answered each time.
	if impl.MateLandOk(l) && !sameParcels(sent, again) {
		t.Fatalf("%+v is answered %s, and then %s", p, tellWords(sent), tellWords(again))
	}
	return !reflect.DeepEqual(plainLand(once), plainLand(l))
}

// Promise 21, of each kind of parcel, and of grants of each end, berth and copy.
func TestPromise21(t *testing.T) {
	changed := 0
	for kind := -1; kind <= 8; kind++ {
		for _, until := range []int{99, 100, 101, 132} {
			for _, at := range []int{-1, 0, 6, 7, 8, 1000000, 1000001} {
				for _, p := range toBook() {
					l := fullLand()
					l.Grants[0].Until = until
					p.Kind, p.At = kind, at
					if checkPromise21(t, l, p) {
						changed++
					}
					l.Grants = append(l.Grants, grantsCalled(37, "z")...)
					if checkPromise21(t, l, p) {
						changed++
					}
					l.Time = 99 // a book that is not ok
					checkPromise21(t, l, p)
				}
			}
		}
	}
	if changed < 80 {
		t.Errorf("the parcels tell too little: %d", changed)
	}
}

func TestPromise21OfMany(t *testing.T) {
	t.Parallel()
	r := rand.New(rand.NewSource(74))
	changed := 0
	for range 8000 {
		l := randomLand(r)
		if checkPromise21(t, l, randomWord(r, l)) {
			changed++
		}
	}
	if changed < 1000 {
		t.Errorf("the parcels tell too little: %d", changed)
	}
}

// Promise 14 of the book: it stays ok whatever is done to it, and all that it sends has a form, from which it is read back.
func TestPromise14OfTheBook(t *testing.T) {
	t.Parallel()
	r := rand.New(rand.NewSource(75))
	met := map[int]int{}
	for range 150 {
		l := randomLand(r)
		for range 80 {
			before := l
			var sent []impl.MateParcel
			switch r.Intn(8) {
			case 0:
				l, _ = impl.MatePut(l, pickOf(r, "a", "b", "c", "d", "e", ""), pickOf(r, fewWants(r, 10), randomWants(r), nil))
			case 1, 2:
				l, sent = impl.MateLandTick(l)
			default:
				l, sent = impl.MateLandTake(l, randomWord(r, l))
			}
			checkLandOk(t, "a book that lives on", l, true)
			if l.Time < before.Time {
				t.Fatalf("the time was %d, and is %d", before.Time, l.Time)
			}
			for _, p := range sent {
				met[p.Kind]++
				checkMailForm(t, p, true)
			}
		}
	}
	for _, kind := range []int{impl.MateTold, impl.MateGiven, impl.MateGotBack} {
		if met[kind] < 500 {
			t.Errorf("the books tell too little of kind %d: %v", kind, met)
		}
	}
}

// Promise 14 of what is sent at the ends of all numbers.
func TestPromise14OfGreatBooks(t *testing.T) {
	l := greatLand()
	for _, g := range l.Grants {
		for _, p := range []impl.MateParcel{askedBy(g.Berth, g.Hold, g.Copy, g.At), backOf(g.Berth, g.Hold, g.Copy, g.At)} {
			next, sent := impl.MateLandTake(l, p)
			checkLandOk(t, "behind a parcel", next, true)
			for _, p := range sent {
				checkMailForm(t, p, true)
			}
		}
	}
	l.Time, l.Grants = 0, nil
	_, sent := impl.MateLandTick(l)
	for _, p := range sent {
		checkMailForm(t, p, true)
	}
	if len(sent) != 4 {
		t.Error(len(sent))
	}
}

// Promise 14 of what mates send, over many ticks, whatever they are brought meanwhile.
func TestPromise14OfWhatMatesSend(t *testing.T) {
	t.Parallel()
	r := rand.New(rand.NewSource(76))
	met := map[int]int{}
	for range 300 {
		m := randomMate(r)
		if r.Intn(50) == 0 {
			m = greatMate()
		}
		for range 60 {
			var sent []impl.MateParcel
			switch r.Intn(6) {
			case 0:
				m = pickOf(r, m, m, impl.MateFall(m, r.Intn(2) == 0))
			case 1:
				m = impl.MateRise(m)
			case 2:
				m = impl.MateTake(m, randomParcel(r, m))
			default:
				m, sent = impl.MateTick(m, pickOf(r, 1, 2, 3, 4, 0))
			}
			for _, p := range sent {
				met[p.Kind]++
				checkMailForm(t, p, true)
			}
		}
	}
	for _, kind := range []int{impl.MateAsked, impl.MateBack, impl.MateHere} {
		if met[kind] < 1000 {
			t.Errorf("the mates tell too little of kind %d: %v", kind, met)
		}
	}
}

// A book and mates that hear one another, in any order, late, twice or not at all: no two berths have one hold by the book's time, and a grant is of who asked for it.
func TestMateLandWithMates(t *testing.T) {
	t.Parallel()
	r := rand.New(rand.NewSource(77))
	met := map[int]int{}
	for range 60 {
		l := impl.MateLand{}
		mates := map[string]impl.Mate{"a": {Name: "a", Up: true}, "b": {Name: "b", Up: true}, "c": {Name: "c", Up: true}}
		var flight []string
		put := func(list []impl.MateParcel) {
			for _, p := range list {
				met[p.Kind]++
				checkMailForm(t, p, true)
				flight = append(flight, impl.MateForm(p))
			}
		}
		for range 120 {
			var sent []impl.MateParcel
			if r.Intn(10) == 0 {
				l, _ = impl.MatePut(l, pickOf(r, "a", "b", "c"), fewWants(r, 3))
			}
			l, sent = impl.MateLandTick(l)
			put(sent)
			for _, name := range []string{"a", "b", "c"} {
				mates[name], sent = impl.MateTick(mates[name], 1+r.Intn(4))
				put(sent)
			}
			for range len(flight) + r.Intn(3) {
				if len(flight) == 0 {
					break
				}
				at := r.Intn(min(len(flight), 8))
				p, ok := impl.MateRead(flight[at])
				if !ok {
					t.Fatalf("%q is not read", flight[at])
				}
				if r.Intn(6) > 0 {
					flight = slices.Delete(flight, at, at+1)
				}
				if r.Intn(8) == 0 {
					continue
				}
				if p.Kind%2 == 1 {
					mates[p.Berth] = impl.MateTake(mates[p.Berth], p)
					continue
				}
				l, sent = impl.MateLandTake(l, p)
				put(sent)
			}
			checkLandOk(t, "among mates", l, true)
			checkHolders(t, l, mates)
		}
	}
	for kind := 1; kind <= 6; kind++ {
		if met[kind] < 300 {
			t.Errorf("the mates tell too little of kind %d: %v", kind, met)
		}
	}
}

// checkHolders holds that each run that is alive and has a hold has the book's grant of it, which is not over.
func checkHolders(t *testing.T, l impl.MateLand, mates map[string]impl.Mate) {
	t.Helper()
	for _, m := range mates {
		for _, run := range m.Runs {
			if !impl.MateAlive(run) || run.Want.Hold == "" {
				continue
			}
			at := slices.IndexFunc(l.Grants, func(g impl.MateGrant) bool { return g.Hold == run.Want.Hold })
			if at < 0 || l.Grants[at].Berth != m.Name || l.Grants[at].Copy != run.Want.Copy || l.Grants[at].Until <= l.Time {
				t.Fatalf("%s of %s lives without a grant: %s", run.Want.Copy, m.Name, tellLand(l))
			}
		}
	}
}

// The numbers of any book and any parcel: nothing panics, and nothing that is not ok comes of what is.
func TestMateLandAnyNumbers(t *testing.T) {
	numbers := []int{math.MinInt, math.MinInt + 1, -1, 0, 1, 7, 100, 132, 1000000, 1000001, 2000000, 2000032, math.MaxInt - 1, math.MaxInt}
	for _, a := range numbers {
		for _, b := range numbers {
			l := fullLand()
			l.Grants[0].At, l.Grants[0].Until = a, b
			p := askedBy("a", "disk", "cache", b)
			next, _ := checkLandTake(t, l, p, noNote)
			checkLandOk(t, "any numbers", next, true)
			l = fullLand()
			l.Time, l.Places[0].Seen = a, b
			next, _ = checkLandTick(t, l)
			checkLandOk(t, "any numbers", next, true)
			next, _ = checkPut(t, l, "a", nil)
			checkLandOk(t, "any numbers", next, true)
		}
	}
}

package tests

import (
	"fmt"
	"math"
	"math/rand"
	"reflect"
	"slices"
	"strings"
	"testing"

	"loop.example/wharffleet/impl"
)

// A second reading of chapter 23, made another way than the program: all reasons why an event does not happen are gathered, and the code is that of the first; lists are written anew and sorted; at each copy that waits all that stand are counted anew.

// modelSeaReasons each begin with a letter by which they are in the order of the codes, and their code. Reasons that can't be asked for, since what they are about is not there, are left out.
func modelSeaReasons(b impl.StewBook, e impl.StewEvent) []string {
	var reasons []string
	reason := func(name string, is bool) {
		if is {
			reasons = append(reasons, name)
		}
	}
	reason("b4 kind", e.Kind < 1 || e.Kind > 6)
	if len(modelBookFaults(b)) > 0 {
		return modelSet(append(reasons, "a1 book"))
	}
	reason("c7 now", b.Now == 1000000)
	service := slices.IndexFunc(b.Services, func(s impl.StewService) bool { return s.Name == e.Name })
	berth := slices.IndexFunc(b.Berths, func(h impl.StewBerth) bool { return h.Name == e.Name })
	copy := slices.IndexFunc(b.Copies, func(c impl.StewCopy) bool { return c.Service == e.Name && c.Number == e.Number })
	switch e.Kind {
	case 2:
		next := modelWished(b, e)
		next.Now = min(next.Now, 1000000)
		next.Services[slices.IndexFunc(next.Services, func(s impl.StewService) bool { return s.Name == e.Service.Name })].Version = 1
		for _, fault := range modelBookFaults(next) {
			reason("e2 "+fault, true)
		}
	case 3:
		reason("d3 copy", copy < 0)
		reason("d3 waits", copy >= 0 && b.Copies[copy].State == 1)
		reason("d3 failed", copy >= 0 && b.Copies[copy].State == 4)
	case 4:
		reason("d3 berth", berth < 0)
	case 5:
		reason("e2 berth's name", !modelStewName.MatchString(e.Name))
		reason("e2 berths", berth < 0 && len(b.Berths) == 6)
	case 6:
		reason("d3 service", service < 0)
		reason("d3 per", service >= 0 && b.Services[service].Per == 0)
		reason("e2 service's load", e.Number < 0 || e.Number > 1000000)
	}
	return modelSet(reasons)
}

// allSeaReasons are all of which the second reading knows.
func allSeaReasons() []string {
	all := []string{"a1 book", "b4 kind", "c7 now", "d3 copy", "d3 waits", "d3 failed", "d3 berth", "d3 service", "d3 per", "e2 berth's name", "e2 berths", "e2 service's load", "e2 services"}
	for _, of := range []string{"name", "image", "want", "down", "over", "per", "least", "most"} {
		all = append(all, "e2 service's "+of)
	}
	return append(all, "e2 down and over", "e2 least above most", "e2 without per")
}

func modelSea(b impl.StewBook, e impl.StewEvent) (impl.StewBook, int) {
	if reasons := modelSeaReasons(b, e); len(reasons) > 0 {
		code := int(reasons[0][1] - '0')
		if code == 1 {
			b = impl.StewBook{}
		}
		return plainBook(b), code
	}
	next := cloneBook(b)
	next.Now++
	switch e.Kind {
	case 1:
		next = modelTicked(b)
	case 2:
		next = modelWished(b, e)
	case 3:
		for i, c := range next.Copies {
			if c.Service == e.Name && c.Number == e.Number {
				next.Copies[i].State, next.Copies[i].Version = 4, next.Now
			}
		}
	case 4:
		next.Berths, next.Copies = nil, nil
		for _, h := range b.Berths {
			if h.Name != e.Name {
				next.Berths = append(next.Berths, h)
			}
		}
		for _, c := range b.Copies {
			if c.Berth != e.Name {
				next.Copies = append(next.Copies, c)
			}
		}
	case 5:
		drains := map[string]bool{e.Name: e.Flag}
		names := []string{e.Name}
		for _, h := range b.Berths {
			if h.Name != e.Name {
				names, drains[h.Name] = append(names, h.Name), h.Drain
			}
		}
		next.Berths = nil
		for _, name := range modelSet(names) {
			next.Berths = append(next.Berths, impl.StewBerth{Name: name, Drain: drains[name]})
		}
	case 6:
		for i, s := range next.Services {
			if s.Name == e.Name {
				next.Services[i].Load, next.Services[i].Version = e.Number, next.Now
			}
		}
	}
	return plainBook(next), 0
}

// modelTicked is of a book that is valid. A copy that has got a berth counts for the next one.
func modelTicked(b impl.StewBook) impl.StewBook {
	next := impl.StewBook{Now: b.Now + 1, Services: slices.Clone(b.Services), Berths: slices.Clone(b.Berths)}
	var waiting []int
	for _, c := range b.Copies {
		if c.Ending {
			continue
		}
		if c.State == 1 {
			waiting = append(waiting, len(next.Copies))
		}
		if c.State == 2 {
			c.State, c.Version = 3, next.Now
		}
		next.Copies = append(next.Copies, c)
	}
	for _, at := range waiting {
		var offers []string
		for _, h := range b.Berths {
			if !h.Drain {
				stand := 0
				for _, c := range next.Copies {
					if c.Berth == h.Name {
						stand++
					}
				}
				offers = append(offers, fmt.Sprintf("%03d %s", stand, h.Name))
			}
		}
		if len(offers) > 0 {
			c := &next.Copies[at]
			c.Berth, c.State, c.Version = slices.Min(offers)[4:], 2, next.Now
		}
	}
	return next
}

// modelWished does not ask whether the book is valid then.
func modelWished(b impl.StewBook, e impl.StewEvent) impl.StewBook {
	w := e.Service
	s := impl.StewService{Name: w.Name, Next: 1}
	next := impl.StewBook{Now: b.Now + 1, Copies: slices.Clone(b.Copies), Berths: slices.Clone(b.Berths)}
	for _, other := range b.Services {
		if other.Name == w.Name {
			s = other
			continue
		}
		next.Services = append(next.Services, other)
	}
	s.Gone, s.Image, s.Want, s.Down, s.Over, s.Per, s.Least, s.Most, s.Load = w.Gone, w.Image, w.Want, w.Down, w.Over, w.Per, w.Least, w.Most, w.Load
	s.Cool, s.Version = 0, next.Now
	next.Services = append(next.Services, s)
	slices.SortFunc(next.Services, func(x, y impl.StewService) int { return strings.Compare(x.Name, y.Name) })
	return next
}

// checkSea holds StewSea against the second reading, and against what promise 23 says of each event.
func checkSea(t *testing.T, what string, b impl.StewBook, e impl.StewEvent) (impl.StewBook, int) {
	t.Helper()
	next, code := impl.StewSea(b, e)
	wanted, wantedCode := modelSea(b, e)
	if code != wantedCode || !sameBook(next, wanted) {
		t.Errorf("%s: %+v\nof %+v\ngives %d, %+v\nnot %d, %+v (%q)", what, e, b, code, next, wantedCode, wanted, modelSeaReasons(b, e))
		return next, code
	}
	checkPromise23OfEvents(t, b, e, next, code)
	return next, code
}

// checkPromise23OfEvents: with code 0 a valid book is behind a valid one, with Now one more; with another code it is as it was, or nothing.
func checkPromise23OfEvents(t *testing.T, b impl.StewBook, e impl.StewEvent, next impl.StewBook, code int) {
	t.Helper()
	switch {
	case code == 0:
		if !impl.StewValid(b) || !impl.StewValid(next) || len(modelBookFaults(next)) > 0 || next.Now != b.Now+1 {
			t.Errorf("%+v happens, and leaves what is not valid, or not one more: %+v", e, next)
		}
	case code == 1:
		if impl.StewValid(b) || !sameBook(next, impl.StewBook{}) {
			t.Errorf("%+v leaves something: %+v", e, next)
		}
	case !slices.Contains([]int{2, 3, 4, 7}, code) || !impl.StewValid(b) || !sameBook(next, b):
		t.Errorf("%+v does not happen (%d), and the book is not as it was: %+v", e, code, next)
	}
}

// checkSeaCode is for what can be told without looking at the book behind.
func checkSeaCode(t *testing.T, what string, b impl.StewBook, e impl.StewEvent, want int) impl.StewBook {
	t.Helper()
	next, code := checkSea(t, what, b, e)
	if code != want {
		t.Errorf("%s: code %d, not %d: %q", what, code, want, modelSeaReasons(b, e))
	}
	return next
}

// randomSeaEvent is of a book, and mostly one that can happen. What its kind does not use is set, too.
func randomSeaEvent(r *rand.Rand, b impl.StewBook) impl.StewEvent {
	names := []string{"-", "0", "a", "a-", "b", "db", "web", "x", "y9"}
	e := impl.StewEvent{
		Kind: pickOf(r, 1, 2, 2, 2, 3, 4, 5, 6), Name: pickOf(r, names...), Number: 1 + r.Intn(9), Flag: r.Intn(2) == 0,
		Service: randomService(r, pickOf(r, names...), 1000000),
	}
	if len(b.Services) > 0 && r.Intn(2) == 0 {
		e.Service.Name = pickOf(r, b.Services...).Name
	}
	switch {
	case r.Intn(6) == 0:
	case e.Kind == impl.StewFails && len(b.Copies) > 0:
		c := pickOf(r, b.Copies...)
		e.Name, e.Number = c.Service, c.Number
	case e.Kind == impl.StewLoad && len(b.Services) > 0:
		e.Name, e.Number = pickOf(r, b.Services...).Name, pickOf(r, 0, 1, 5, 30, 999999, 1000000)
	case len(b.Berths) > 0:
		e.Name = pickOf(r, b.Berths...).Name
	}
	return e
}

// breakSeaEvent changes one thing, behind which an event mostly does not happen.
func breakSeaEvent(r *rand.Rand, e *impl.StewEvent) {
	number := pickOf(r, math.MinInt, -1, 0, 1, 2, 3, 4, 5, 10, 11, 999999, 1000000, 1000001, math.MaxInt)
	text := pickOf(r, "", "-", "a", "a-", "b", "db", "web", "A", "a_b", "a b", strings.Repeat("z", 20), strings.Repeat("z", 21))
	s := &e.Service
	switch r.Intn(10) {
	case 0:
		e.Kind = number
	case 1:
		e.Name = text
	case 2:
		e.Number = number
	case 3:
		s.Name = text
	case 4:
		s.Down, s.Over = 0, 0
	default:
		*pickOf(r, &s.Version, &s.Image, &s.Want, &s.Down, &s.Over, &s.Next, &s.Per, &s.Per, &s.Least, &s.Most, &s.Load, &s.Cool) = number
	}
}

// fullOf has as many services and berths as there can be.
func fullOf(r *rand.Rand) impl.StewBook {
	b := readyBook(r)
	for i := 0; len(b.Services) < 8; i++ {
		b.Services = append(b.Services, randomService(r, fmt.Sprint("x", i), b.Now))
	}
	for i := 0; len(b.Berths) < 6; i++ {
		b.Berths = append(b.Berths, impl.StewBerth{Name: fmt.Sprint("x", i), Drain: r.Intn(3) == 0})
	}
	return b
}

func TestStewSeaAsRead(t *testing.T) {
	t.Parallel()
	r := rand.New(rand.NewSource(231))
	met := map[string]int{}
	for i := range 20000 {
		b := pickOf(r, randomBook, readyBook, stewardsBook)(r)
		if i%10 == 0 {
			b = pickOf(r, crowdedBook, fullOf)(r)
		}
		e := randomSeaEvent(r, b)
		for range pickOf(r, 0, 0, 0, 1, 1, 2) {
			breakSeaEvent(r, &e)
		}
		if r.Intn(20) == 0 {
			breakBook(r, &b)
		}
		for _, reason := range modelSeaReasons(b, e) {
			met[reason]++
		}
		next, code := checkSea(t, "a drawn event", b, e)
		met[fmt.Sprint("code ", code)]++
		if code == 0 {
			met[fmt.Sprint("kind ", e.Kind, ", copies change ", !reflect.DeepEqual(nilIfEmpty(next.Copies), nilIfEmpty(b.Copies)))]++
		}
		if t.Failed() {
			return
		}
	}
	for _, reason := range allSeaReasons() {
		if met[reason] < 30 {
			t.Errorf("%q was met %d times: the events tell too little", reason, met[reason])
		}
	}
	for _, code := range []int{0, 1, 2, 3, 4, 7} {
		if met[fmt.Sprint("code ", code)] < 200 {
			t.Errorf("code %d: the events tell too little: %v", code, met)
		}
	}
	for _, what := range []string{"1, copies change true", "1, copies change false", "2, copies change false", "3, copies change true", "4, copies change true", "4, copies change false", "5, copies change false", "6, copies change false"} {
		if met["kind "+what] < 200 {
			t.Errorf("kind %s: the events tell too little: %v", what, met)
		}
	}
}

// What an event's kind does not use is not asked.
func TestStewSeaHangsOnNothingElse(t *testing.T) {
	t.Parallel()
	r := rand.New(rand.NewSource(232))
	for range 3000 {
		b := readyBook(r)
		e := randomSeaEvent(r, b)
		other := impl.StewEvent{Kind: e.Kind, Service: randomService(r, "a_b", 9), Name: pickOf(r, "", "a", "A"), Number: pickOf(r, math.MinInt, -1, 7, math.MaxInt), Flag: !e.Flag}
		switch e.Kind {
		case impl.StewWish:
			other.Service = e.Service
			other.Service.Version, other.Service.Next, other.Service.Cool = r.Intn(9), r.Intn(9), r.Intn(9)
		case impl.StewFails, impl.StewLoad:
			other.Name, other.Number = e.Name, e.Number
		case impl.StewSink:
			other.Name = e.Name
		case impl.StewRaise:
			other.Name, other.Flag = e.Name, e.Flag
		}
		next, code := checkSea(t, "an event", b, e)
		if same, sameCode := checkSea(t, "one like it", b, other); sameCode != code || !sameBook(same, next) {
			t.Fatalf("%+v gives %d, %+v\nand %+v %d, %+v", e, code, next, other, sameCode, same)
		}
	}
}

// What happens to one that has the same things under other versions is the same: versions are told, not asked.
func TestStewSeaDoesNotAskVersions(t *testing.T) {
	t.Parallel()
	r := rand.New(rand.NewSource(233))
	untold := func(b impl.StewBook) impl.StewBook {
		b = plainBook(b)
		b.Now = 0
		for i := range b.Services {
			b.Services[i].Version = 0
		}
		for i := range b.Copies {
			b.Copies[i].Version = 0
		}
		return b
	}
	for range 2000 {
		b := readyBook(r)
		b.Now = min(b.Now, 999999)
		for i := range b.Services {
			b.Services[i].Version = min(b.Services[i].Version, b.Now)
		}
		for i := range b.Copies {
			b.Copies[i].Version = min(b.Copies[i].Version, b.Now)
		}
		other := cloneBook(b)
		other.Now = 999999
		for i := range other.Services {
			other.Services[i].Version = 1 + r.Intn(999999)
		}
		for i := range other.Copies {
			other.Copies[i].Version = 1 + r.Intn(999999)
		}
		e := randomSeaEvent(r, b)
		next, code := checkSea(t, "a book", b, e)
		if same, sameCode := checkSea(t, "another one", other, e); sameCode != code || !sameBook(untold(same), untold(next)) {
			t.Fatalf("%+v gives %d, %+v\nand %d, %+v", e, code, next, sameCode, same)
		}
	}
}

package tests

import (
	"fmt"
	"math/rand"
	"reflect"
	"slices"
	"strings"
	"testing"

	"loop.example/wharffleet/impl"
)

// A second reading of chapter 22, made another way than the program: each steward goes over lists of copies that are picked out ahead; the first to end is the least of texts; of each copy it is asked whether it may end.

// modelSight is a service of a book, and its copies that are Live, the old ones of them and those on berths that are to be drained.
type modelSight struct {
	book               impl.StewBook
	service            impl.StewService
	live, old, drained []impl.StewCopy
	all                int
}

func modelSightOf(b impl.StewBook, s impl.StewService) modelSight {
	v := modelSight{book: b, service: s}
	for _, c := range b.Copies {
		if c.Service == s.Name {
			v.all++
			if !c.Ending {
				v.live = append(v.live, c)
			}
		}
	}
	for _, c := range v.live {
		if c.Image != s.Image {
			v.old = append(v.old, c)
		}
		if v.isDrained(c) {
			v.drained = append(v.drained, c)
		}
	}
	return v
}

func (v modelSight) isDrained(c impl.StewCopy) bool {
	return slices.Contains(v.book.Berths, impl.StewBerth{Name: c.Berth, Drain: true})
}

// modelStewAsk is nothing for a book that is not valid, and for another kind.
func modelStewAsk(kind int, b impl.StewBook) []impl.StewAct {
	if len(modelBookFaults(b)) > 0 {
		return nil
	}
	var acts []impl.StewAct
	for _, s := range b.Services {
		v := modelSightOf(b, s)
		var a *impl.StewAct
		switch kind {
		case 1:
			a = v.counter()
		case 2:
			a = v.waver()
		case 3:
			a = v.mender()
		case 4:
			a = v.scaler()
		case 5:
			a = v.sweeper()
		case 6:
			a = v.drainer()
		}
		if a != nil {
			a.Service, a.Seen = s.Name, s.Version
			acts = append(acts, *a)
		}
	}
	return acts
}

// key is a text that is the less the sooner a copy is to end.
func (v modelSight) key(c impl.StewCopy) string {
	letter := map[bool]string{true: "a", false: "b"}
	return letter[c.State != 3] + letter[c.Image != v.service.Image] + letter[v.isDrained(c)] + fmt.Sprintf("%07d", 1000000-c.Number)
}

func (v modelSight) first(list []impl.StewCopy) impl.StewCopy {
	return slices.MinFunc(list, func(a, b impl.StewCopy) int { return strings.Compare(v.key(a), v.key(b)) })
}

func (v modelSight) mayEnd(c impl.StewCopy) bool { return modelMayEnd(v.book, c.Service, c.Number) }

func modelEnds(list ...impl.StewCopy) *impl.StewAct {
	a := &impl.StewAct{}
	for _, c := range list {
		a.Ends = append(a.Ends, impl.StewEnd{Number: c.Number, Seen: c.Version})
	}
	return a
}

func (v modelSight) counter() *impl.StewAct {
	s, l := v.service, len(v.live)
	if s.Gone {
		return nil
	}
	if l < s.Want {
		return &impl.StewAct{Create: s.Want - l}
	}
	if l > s.Want && (len(v.old) == 0 && len(v.drained) == 0 || l > s.Want+s.Over) {
		if first := v.first(v.live); v.mayEnd(first) {
			return modelEnds(first)
		}
	}
	return nil
}

func (v modelSight) waver() *impl.StewAct {
	if v.service.Gone || len(v.old) == 0 || len(v.live) < v.service.Want {
		return nil
	}
	return v.oneMoreOrLess(v.old)
}

func (v modelSight) drainer() *impl.StewAct {
	if v.service.Gone || len(v.old) > 0 || len(v.drained) == 0 || len(v.live) < v.service.Want {
		return nil
	}
	return v.oneMoreOrLess(v.drained)
}

func (v modelSight) oneMoreOrLess(list []impl.StewCopy) *impl.StewAct {
	if len(v.live) < v.service.Want+v.service.Over {
		return &impl.StewAct{Create: 1}
	}
	var may []impl.StewCopy
	for _, c := range list {
		if v.mayEnd(c) {
			may = append(may, c)
		}
	}
	if len(may) == 0 {
		return nil
	}
	return modelEnds(v.first(may))
}

func (v modelSight) mender() *impl.StewAct {
	failed := slices.DeleteFunc(slices.Clone(v.live), func(c impl.StewCopy) bool { return c.State != 4 })
	if len(failed) == 0 {
		return nil
	}
	return modelEnds(failed...)
}

func (v modelSight) sweeper() *impl.StewAct {
	switch {
	case !v.service.Gone:
		return nil
	case len(v.live) > 0:
		return modelEnds(v.live...)
	case v.all == 0:
		return &impl.StewAct{Drop: true}
	}
	return nil
}

// modelDue counts up until the load is borne, or no more may be there.
func modelDue(s impl.StewService) int {
	n := s.Least
	for n < s.Most && n*s.Per < s.Load {
		n++
	}
	return n
}

func (v modelSight) scaler() *impl.StewAct {
	s := v.service
	if s.Gone || s.Per == 0 {
		return nil
	}
	to := func(want, cool int) *impl.StewAct { return &impl.StewAct{Scale: true, Want: want, Cool: cool} }
	due := modelDue(s)
	switch {
	case s.Want < s.Least:
		return to(s.Least, 0)
	case s.Want > s.Most:
		return to(s.Most, 0)
	case due > s.Want:
		return to(due, 0)
	case due == s.Want && s.Cool == 0:
		return nil
	case due == s.Want:
		return to(s.Want, 0)
	case s.Cool == 3:
		return to(s.Want-1, 0)
	}
	return to(s.Want, s.Cool+1)
}

// plainActs have nil for lists that are empty.
func plainActs(acts []impl.StewAct) []impl.StewAct {
	acts = nilIfEmpty(acts)
	for i := range acts {
		acts[i].Ends = nilIfEmpty(acts[i].Ends)
	}
	return acts
}

// checkSteward holds StewAsk against the second reading, and what it asks for against promise 24.
func checkSteward(t *testing.T, what string, kind int, b impl.StewBook) []impl.StewAct {
	t.Helper()
	got, want := plainActs(impl.StewAsk(kind, b)), plainActs(modelStewAsk(kind, b))
	if !reflect.DeepEqual(got, want) {
		t.Errorf("%s: steward %d of %+v\nasks for %+v\nnot %+v", what, kind, b, got, want)
		return got
	}
	checkAsSeen(t, what, b, got)
	checkPromise24(t, what, b, got)
	return got
}

// checkAsSeen holds that acts are in order of the services, one for a service at most, and have the versions of the view.
func checkAsSeen(t *testing.T, what string, b impl.StewBook, acts []impl.StewAct) {
	t.Helper()
	for i, a := range acts {
		if i > 0 && acts[i-1].Service >= a.Service {
			t.Errorf("%s: %q behind %q", what, a.Service, acts[i-1].Service)
		}
		if kindOfAct(a) == "" || seenLate(b, a) {
			t.Errorf("%s: %+v asks for nothing, or was not seen so: %+v", what, a, b)
		}
	}
}

// askedOf tells what all stewards ask for, in few words: kind, service and what is to be done.
func askedOf(t *testing.T, what string, b impl.StewBook) string {
	t.Helper()
	var all []string
	for kind := impl.StewCounter; kind <= impl.StewDrainer; kind++ {
		for _, a := range checkSteward(t, what, kind, b) {
			all = append(all, fmt.Sprint(kind, " ", a.Service, doneBy(a)))
		}
	}
	return strings.Join(all, ", ")
}

// doneBy tells what is to be done by an act: so many more, these less, or a Want and a Cool.
func doneBy(a impl.StewAct) string {
	text := ""
	if a.Create != 0 {
		text += fmt.Sprint(" +", a.Create)
	}
	for _, e := range a.Ends {
		text += fmt.Sprint(" -", e.Number)
	}
	if a.Scale {
		text += fmt.Sprint(" =", a.Want, "/", a.Cool)
	}
	if a.Drop {
		text += " drop"
	}
	return text
}

// onlyAsked is what one steward asks for of a book with one service.
func onlyAsked(t *testing.T, what string, kind int, b impl.StewBook) string {
	t.Helper()
	acts := checkSteward(t, what, kind, b)
	if len(acts) == 0 {
		return ""
	}
	return doneBy(acts[0])
}

// stewardsBook is a drawn one in which stewards have something to do: services that have nearly what is wanted, old copies, and berths that are to be drained.
func stewardsBook(r *rand.Rand) impl.StewBook {
	b := readyBook(r)
	for i := range b.Services {
		s := &b.Services[i]
		if live := impl.StewCountOf(b, s.Name).Live; r.Intn(3) > 0 {
			s.Want = min(10, max(0, live-pickOf(r, 0, 0, 1, 1, 2, 3, -1)))
		}
		if s.Per > 0 && r.Intn(2) == 0 {
			s.Load = max(0, s.Want*s.Per-pickOf(r, -1, 0, 0, 1, s.Per))
		}
	}
	if r.Intn(2) == 0 {
		for i := range b.Copies {
			c := &b.Copies[i]
			c.Image = b.Services[slices.IndexFunc(b.Services, func(s impl.StewService) bool { return s.Name == c.Service })].Image
		}
	}
	return b
}

// edgeBook is a drawn one with Next and Now at their ends, or near them.
func edgeBook(r *rand.Rand) impl.StewBook {
	b := stewardsBook(r)
	if r.Intn(2) == 0 {
		b.Now = pickOf(r, 999999, 1000000)
	}
	for i := range b.Services {
		if r.Intn(2) == 0 {
			b.Services[i].Next = 1000000 - r.Intn(12)
		}
	}
	return b
}

func TestStewAskAsRead(t *testing.T) {
	t.Parallel()
	r := rand.New(rand.NewSource(221))
	met := map[string]int{}
	for i := range 7000 {
		b := pickOf(r, randomBook, stewardsBook, stewardsBook, edgeBook)(r)
		if i%20 == 0 {
			b = crowdedBook(r)
		}
		if i%15 == 0 {
			breakBook(r, &b)
		}
		for kind := -1; kind <= 8; kind++ {
			acts := checkSteward(t, "a drawn book", kind, b)
			met[fmt.Sprint(kind, " acts ", len(acts))]++
			for _, a := range acts {
				met[fmt.Sprint(kind, " ", kindOfAct(a))]++
			}
		}
		if t.Failed() {
			return
		}
	}
	for _, what := range []string{"1 create ", "1 ends ", "2 create ", "2 ends ", "3 ends ", "4 scale ", "5 ends ", "5 drop ", "6 create ", "6 ends "} {
		if met[what] < 500 {
			t.Errorf("%q was met %d times: the books tell too little", what, met[what])
		}
	}
	for kind := 1; kind <= 6; kind++ {
		if met[fmt.Sprint(kind, " acts 0")] < 1000 || met[fmt.Sprint(kind, " acts 2")] < 100 {
			t.Errorf("steward %d: the books tell too little: %v", kind, met)
		}
	}
}

// What is asked for of a service hangs on it and on its copies alone: it is the same with all others out of the book.
func TestStewAskOfEachServiceAlone(t *testing.T) {
	t.Parallel()
	r := rand.New(rand.NewSource(222))
	some := 0
	for range 3000 {
		b := stewardsBook(r)
		for kind := impl.StewCounter; kind <= impl.StewDrainer; kind++ {
			var apart []impl.StewAct
			for _, s := range b.Services {
				only := cloneBook(b)
				only.Services = []impl.StewService{s}
				only.Copies = slices.DeleteFunc(only.Copies, func(c impl.StewCopy) bool { return c.Service != s.Name })
				apart = append(apart, impl.StewAsk(kind, only)...)
			}
			if together := impl.StewAsk(kind, b); !reflect.DeepEqual(plainActs(together), plainActs(apart)) {
				t.Fatalf("steward %d of %+v asks for %+v, and of each alone %+v", kind, b, together, apart)
			}
			if len(apart) > 1 {
				some++
			}
		}
	}
	if some < 2000 {
		t.Errorf("the books tell too little: %d", some)
	}
}

// Versions, Now and Next are not asked, but told.
func TestStewAskHangsOnNothingElse(t *testing.T) {
	r := rand.New(rand.NewSource(223))
	untold := func(acts []impl.StewAct) string {
		text := ""
		for _, a := range acts {
			text += a.Service + doneBy(a) + "\n"
		}
		return text
	}
	for range 2000 {
		b := stewardsBook(r)
		other := cloneBook(b)
		other.Now = 1000000
		for i := range other.Services {
			other.Services[i].Version, other.Services[i].Next = 1+r.Intn(1000000), 1000000
		}
		for i := range other.Copies {
			other.Copies[i].Version = 1 + r.Intn(1000000)
		}
		for kind := impl.StewCounter; kind <= impl.StewDrainer; kind++ {
			if a, o := untold(impl.StewAsk(kind, b)), untold(checkSteward(t, "another book", kind, other)); a != o {
				t.Fatalf("steward %d of %+v asks for %s, and of %+v for %s", kind, b, a, other, o)
			}
		}
	}
}

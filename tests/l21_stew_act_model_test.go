package tests

import (
	"fmt"
	"math"
	"math/rand"
	"reflect"
	"slices"
	"testing"

	"loop.example/wharffleet/impl"
)

// A second reading of chapter 21, made another way than the program: all reasons why an act is not done are gathered, and the code is that of the first; ends are counted together, not done one by one; the book behind is sorted anew.

// modelActReasons each begin with their code, and are sorted. Reasons that can't be asked for, since what they are about is not there, are left out.
func modelActReasons(b impl.StewBook, a impl.StewAct) []string {
	var reasons []string
	reason := func(name string, is bool) {
		if is {
			reasons = append(reasons, name)
		}
	}
	modelActFaults(a, reason)
	if len(modelBookFaults(b)) > 0 {
		return modelSet(append(reasons, "1 book"))
	}
	reason("7 now", b.Now == 1000000)
	at := slices.IndexFunc(b.Services, func(s impl.StewService) bool { return s.Name == a.Service })
	if at < 0 {
		return modelSet(append(reasons, "3 service"))
	}
	s := b.Services[at]
	reason("4 service", s.Version != a.Seen)
	copies := map[int]impl.StewCopy{}
	live, ready := 0, 0
	for _, c := range b.Copies {
		if c.Service != s.Name {
			continue
		}
		copies[c.Number] = c
		if !c.Ending {
			live++
		}
		if !c.Ending && c.State == 3 {
			ready++
		}
	}
	ends := map[int]int{} // by their State
	for _, e := range a.Ends {
		c, there := copies[e.Number]
		reason("3 end", !there)
		reason("4 end", there && c.Version != e.Seen)
		reason("5 ending", c.Ending)
		if there && !c.Ending {
			live--
			ends[c.State]++
		}
	}
	reason("5 ready", !s.Gone && ends[3] > 0 && ready-ends[3] < s.Want-s.Down)
	reason("6 drop gone", a.Drop && !s.Gone)
	reason("6 drop copies", a.Drop && len(copies) > 0)
	want := s.Want
	if a.Scale {
		want = a.Want
	}
	if a.Create > 0 && a.Create <= 20 {
		reason("6 create gone", s.Gone)
		reason("6 create many", live+a.Create > want+s.Over)
		reason("7 copies", len(b.Copies)+a.Create > 200)
		reason("7 next", s.Next+a.Create > 1000000)
	}
	reason("6 scale per", a.Scale && s.Per == 0)
	reason("6 scale want", a.Scale && s.Per != 0 && (want < s.Least || want > s.Most))
	return modelSet(reasons)
}

// modelActFaults are those of an act alone.
func modelActFaults(a impl.StewAct, reason func(string, bool)) {
	reason("2 create", a.Create < 0 || a.Create > 20)
	reason("2 ends", len(a.Ends) > 200)
	sorted := slices.SortedFunc(slices.Values(a.Ends), func(x, y impl.StewEnd) int {
		switch {
		case x.Number < y.Number:
			return -1
		case x.Number > y.Number:
			return 1
		}
		return 0
	})
	twice := len(slices.CompactFunc(slices.Clone(sorted), func(x, y impl.StewEnd) bool { return x.Number == y.Number })) < len(sorted)
	reason("2 order", twice || !slices.EqualFunc(sorted, a.Ends, func(x, y impl.StewEnd) bool { return x.Number == y.Number }))
	reason("2 want without scale", !a.Scale && a.Want != 0)
	reason("2 cool without scale", !a.Scale && a.Cool != 0)
	reason("2 want", a.Scale && (a.Want < 0 || a.Want > 10))
	reason("2 cool", a.Scale && (a.Cool < 0 || a.Cool > 3))
	reason("2 drop and create", a.Drop && a.Create != 0)
	reason("2 drop and scale", a.Drop && a.Scale)
	reason("2 drop and ends", a.Drop && len(a.Ends) > 0)
}

// allActReasons are all of which the second reading knows.
func allActReasons() []string {
	return []string{
		"1 book", "2 create", "2 ends", "2 order", "2 want without scale", "2 cool without scale", "2 want", "2 cool",
		"2 drop and create", "2 drop and scale", "2 drop and ends", "3 service", "3 end", "4 service", "4 end", "5 ending", "5 ready",
		"6 drop gone", "6 drop copies", "6 create gone", "6 create many", "6 scale per", "6 scale want", "7 copies", "7 next", "7 now",
	}
}

func modelApply(b impl.StewBook, a impl.StewAct) (impl.StewBook, int) {
	if reasons := modelActReasons(b, a); len(reasons) > 0 {
		code := int(reasons[0][0] - '0')
		if code == 1 {
			b = impl.StewBook{}
		}
		return plainBook(b), code
	}
	next := impl.StewBook{Now: b.Now + 1, Berths: b.Berths}
	copies := map[string]impl.StewCopy{}
	for _, c := range b.Copies {
		if c.Service == a.Service && slices.ContainsFunc(a.Ends, func(e impl.StewEnd) bool { return e.Number == c.Number }) {
			c.Ending, c.Version = true, next.Now
		}
		copies[modelCopyKey(c)] = c
	}
	for _, s := range b.Services {
		if s.Name == a.Service {
			if a.Drop {
				continue
			}
			if a.Scale {
				s.Want, s.Cool = a.Want, a.Cool
			}
			for ; a.Create > 0; a.Create-- {
				c := impl.StewCopy{Service: s.Name, Number: s.Next, Version: next.Now, Image: s.Image, State: 1}
				copies[modelCopyKey(c)] = c
				s.Next++
			}
			s.Version = next.Now
		}
		next.Services = append(next.Services, s)
	}
	var keys []string
	for key := range copies {
		keys = append(keys, key)
	}
	for _, key := range modelSet(keys) {
		next.Copies = append(next.Copies, copies[key])
	}
	return plainBook(next), 0
}

// plainBook shares nothing with its book, and has nil for lists that are empty.
func plainBook(b impl.StewBook) impl.StewBook {
	b = cloneBook(b)
	b.Services, b.Copies, b.Berths = nilIfEmpty(b.Services), nilIfEmpty(b.Copies), nilIfEmpty(b.Berths)
	return b
}

func sameBook(a, b impl.StewBook) bool { return reflect.DeepEqual(plainBook(a), plainBook(b)) }

// checkApply holds StewApply against the second reading, and against what promises 23, 25 and 26 say of each act.
func checkApply(t *testing.T, what string, b impl.StewBook, a impl.StewAct) (impl.StewBook, int) {
	t.Helper()
	next, code := impl.StewApply(b, a)
	wanted, wantedCode := modelApply(b, a)
	if code != wantedCode || !sameBook(next, wanted) {
		t.Errorf("%s: %+v\nof %+v\ngives %d, %+v\nnot %d, %+v (%q)", what, a, b, code, next, wantedCode, wanted, modelActReasons(b, a))
		return next, code
	}
	checkPromise23OfActs(t, b, a, next, code)
	checkPromise25(t, b, a, next, code)
	checkPromise26(t, b, a, next, code)
	return next, code
}

// randomAct is of a book, and mostly one that can be asked for.
func randomAct(r *rand.Rand, b impl.StewBook) impl.StewAct {
	a := impl.StewAct{Service: pickOf(r, "a", "db", "none", ""), Seen: 1 + r.Intn(3)}
	if len(b.Services) == 0 || r.Intn(30) == 0 {
		return a
	}
	s := pickOf(r, b.Services...)
	a.Service, a.Seen = s.Name, s.Version
	if s.Gone && r.Intn(2) == 0 {
		a.Drop = true
		return a
	}
	if r.Intn(2) == 0 {
		a.Create = r.Intn(4)
	}
	if s.Per > 0 && r.Intn(2) == 0 || r.Intn(20) == 0 {
		a.Scale, a.Want, a.Cool = true, min(10, max(0, s.Least-1+r.Intn(s.Most-s.Least+3))), r.Intn(4)
	}
	if r.Intn(2) == 0 {
		often := 1 + r.Intn(4)
		for _, c := range b.Copies {
			if c.Service == s.Name && r.Intn(often) == 0 && (!c.Ending || r.Intn(15) == 0) {
				a.Ends = append(a.Ends, impl.StewEnd{Number: c.Number, Seen: c.Version})
			}
		}
	}
	return a
}

// breakAct changes one thing, behind which an act mostly is not done.
func breakAct(r *rand.Rand, a *impl.StewAct) {
	number := pickOf(r, math.MinInt, -1, 0, 1, 2, 3, 4, 5, 10, 11, 19, 20, 21, 999999, 1000000, 1000001, math.MaxInt)
	switch r.Intn(9) {
	case 0:
		a.Service = pickOf(r, "", "a", "a-", "b", "db", "web", "A", "a_b")
	case 1:
		a.Drop = !a.Drop
	case 2:
		a.Scale = !a.Scale
	case 3:
		if len(a.Ends) > 1 {
			i, j := r.Intn(len(a.Ends)), r.Intn(len(a.Ends))
			a.Ends[i], a.Ends[j] = a.Ends[j], a.Ends[i]
		}
	case 4, 5:
		if len(a.Ends) > 0 {
			e := &a.Ends[r.Intn(len(a.Ends))]
			*pickOf(r, &e.Number, &e.Seen) = number
		}
	case 6:
		for i := range pickOf(r, 1, 1, 1, 200) {
			a.Ends = append(a.Ends, impl.StewEnd{Number: number + i, Seen: 1})
		}
	default:
		*pickOf(r, &a.Seen, &a.Create, &a.Want, &a.Cool) = number
	}
}

// crowdedBook is a drawn one with nearly as many copies as there can be.
func crowdedBook(r *rand.Rand) impl.StewBook {
	b := readyBook(r)
	b.Services = append(slices.DeleteFunc(b.Services, func(s impl.StewService) bool { return s.Name > "web" })[:min(7, len(b.Services))], impl.StewService{Name: "zzz", Version: 1, Image: 1, Want: 1, Over: 1, Next: 1000})
	b.Copies = slices.DeleteFunc(b.Copies, func(c impl.StewCopy) bool {
		return !slices.ContainsFunc(b.Services, func(s impl.StewService) bool { return s.Name == c.Service })
	})
	for i := 1; len(b.Copies) < 195+r.Intn(7) && len(b.Copies) < 200; i++ {
		b.Copies = append(b.Copies, impl.StewCopy{Service: "zzz", Number: i, Version: 1, Image: 1, State: impl.StewWaiting, Ending: true})
	}
	return b
}

func TestStewApplyAsRead(t *testing.T) {
	t.Parallel()
	r := rand.New(rand.NewSource(211))
	met := map[string]int{}
	for i := range 30000 {
		b := readyBook(r)
		if i%10 == 0 {
			b = crowdedBook(r)
		}
		a := randomAct(r, b)
		for range pickOf(r, 0, 0, 0, 1, 1, 2) {
			breakAct(r, &a)
		}
		if r.Intn(20) == 0 {
			breakBook(r, &b)
		}
		for _, reason := range modelActReasons(b, a) {
			met[reason]++
		}
		_, code := checkApply(t, "a drawn act", b, a)
		met[fmt.Sprint("code ", code)]++
		if code == 0 {
			met[kindOfAct(a)]++
		}
		if t.Failed() {
			return
		}
	}
	for _, reason := range allActReasons() {
		if met[reason] < 50 {
			t.Errorf("%q was met %d times: the acts tell too little", reason, met[reason])
		}
	}
	for code := range 8 {
		if met[fmt.Sprint("code ", code)] < 200 {
			t.Errorf("code %d: the acts tell too little: %v", code, met)
		}
	}
	for _, kind := range []string{"", "create ", "scale ", "ends ", "drop ", "create scale ", "create ends ", "scale ends ", "create scale ends "} {
		if met[kind] < 30 {
			t.Errorf("%q was done %d times: the acts tell too little", kind, met[kind])
		}
	}
}

// kindOfAct tells what an act has in it.
func kindOfAct(a impl.StewAct) string {
	kind := ""
	for _, part := range []struct {
		name string
		is   bool
	}{{"create ", a.Create != 0}, {"scale ", a.Scale}, {"ends ", len(a.Ends) > 0}, {"drop ", a.Drop}} {
		if part.is {
			kind += part.name
		}
	}
	return kind
}

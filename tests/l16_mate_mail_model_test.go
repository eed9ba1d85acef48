package tests

import (
	"fmt"
	"math"
	"math/rand"
	"reflect"
	"regexp"
	"slices"
	"strconv"
	"strings"
	"testing"

	"loop.example/wharffleet/impl"
)

// A second reading of chapter 16, made another way than the program: forms are checked part by part and then printed, texts are held against patterns.

// modelForm writes what is to be written, whether the parts are such or not.
func modelForm(p impl.MateParcel) string {
	switch p.Kind {
	case 1:
		form := fmt.Sprintf("told %s %d\n", p.Berth, p.Seen)
		for _, w := range p.Wants {
			hold := w.Hold
			if hold == "" {
				hold = "*"
			}
			form += fmt.Sprintf("want %s %d %s %d %d %d %d\n", w.Copy, w.Version, hold, w.Pull, w.Start, w.Dies, w.Grace)
		}
		return form
	case 2, 3, 4:
		word := []string{"asked", "given", "back"}[p.Kind-2]
		return fmt.Sprintf("%s %s %s %s %d\n", word, p.Berth, p.Hold, p.Copy, p.At)
	case 5:
		return fmt.Sprintf("gotback %s %s %d\n", p.Berth, p.Hold, p.At)
	}
	return fmt.Sprintf("here %s %d\n", p.Berth, p.Seen)
}

// modelMailFaults are the parts by which a parcel has no form.
func modelMailFaults(p impl.MateParcel) []string {
	var faults []string
	fault := func(name string, is bool) {
		if is {
			faults = append(faults, name)
		}
	}
	uses := func(kinds ...int) bool { return slices.Contains(kinds, p.Kind) }
	fault("kind", p.Kind < 1 || p.Kind > 6)
	fault("berth", !modelMateName.MatchString(p.Berth))
	switch {
	case uses(1):
		fault("seen", p.Seen < 1 || p.Seen > 1000000)
	case uses(6):
		fault("seen", p.Seen < 0 || p.Seen > 1000000)
	default:
		fault("seen unused", p.Seen != 0)
	}
	if uses(1) {
		fault("wants", !modelWantsOk(p.Wants))
	} else {
		fault("wants unused", len(p.Wants) != 0)
	}
	if uses(2, 3, 4, 5) {
		fault("hold", !modelMateName.MatchString(p.Hold) || p.Hold == "*")
		fault("at", p.At < 0 || p.At > 1000000)
	} else {
		fault("hold unused", p.Hold != "")
		fault("at unused", p.At != 0)
	}
	if uses(2, 3, 4) {
		fault("copy", !modelMateName.MatchString(p.Copy))
	} else {
		fault("copy unused", p.Copy != "")
	}
	return faults
}

// mailPatterns are by their kinds, with a group for each part.
func mailPatterns() map[int]*regexp.Regexp {
	name, number := `([!-~]{1,20})`, `(0|[1-9][0-9]{0,6})`
	line := func(words ...string) *regexp.Regexp {
		return regexp.MustCompile(`\A` + strings.Join(words, " ") + `\n\z`)
	}
	return map[int]*regexp.Regexp{
		2: line("asked", name, name, name, number), 3: line("given", name, name, name, number), 4: line("back", name, name, name, number),
		5: line("gotback", name, name, number), 6: line("here", name, number),
		1: line("told", name, number+`((?:\nwant [^ \n]+ [^ \n]+ [^ \n]+ [^ \n]+ [^ \n]+ [^ \n]+ [^ \n]+)*)`),
		0: regexp.MustCompile(`\nwant ` + strings.Join([]string{name, number, name, number, number, number, number}, " ") + `(?:\n|\z)`),
	}
}

var modelMails = mailPatterns()

func modelNumber(s string) int {
	n, err := strconv.Atoi(s)
	if err != nil {
		return -1
	}
	return n
}

// modelMailRead finds the one kind whose pattern a text has, and then asks for what patterns don't tell.
func modelMailRead(s string) (impl.MateParcel, bool) {
	var p impl.MateParcel
	for kind := 1; kind <= 6; kind++ {
		parts := modelMails[kind].FindStringSubmatch(s)
		if parts == nil {
			continue
		}
		p.Kind, p.Berth = kind, parts[1]
		last := modelNumber(parts[len(parts)-1])
		switch kind {
		case 1:
			p.Seen, p.Wants = modelNumber(parts[2]), modelWantLines(parts[3])
		case 6:
			p.Seen = last
		case 5:
			p.Hold, p.At = parts[2], last
		default:
			p.Hold, p.Copy, p.At = parts[2], parts[3], last
		}
	}
	if p.Kind == 0 || len(modelMailFaults(p)) > 0 {
		return impl.MateParcel{}, false
	}
	return p, true
}

// modelWantLines are wants that are not ok where a line is none.
func modelWantLines(s string) []impl.MateWant {
	var list []impl.MateWant
	for _, line := range strings.Split(s, "\n")[1:] {
		parts := modelMails[0].FindStringSubmatch("\n" + line)
		if parts == nil {
			return []impl.MateWant{{}}
		}
		n := func(at int) int { return modelNumber(parts[at]) }
		w := impl.MateWant{Copy: parts[1], Version: n(2), Hold: parts[3], Pull: n(4), Start: n(5), Dies: n(6), Grace: n(7)}
		if w.Hold == "*" {
			w.Hold = ""
		}
		list = append(list, w)
	}
	return list
}

// checkMailForm holds MateForm of a parcel against the second reading, and promise 13: what has a form is read from it.
func checkMailForm(t *testing.T, p impl.MateParcel, want bool) {
	t.Helper()
	form, faults := impl.MateForm(p), modelMailFaults(p)
	if (form != "") != want || (len(faults) == 0) != want {
		t.Fatalf("MateForm of %+v is %q; the second reading finds %q", p, form, faults)
	}
	if !want {
		return
	}
	if form != modelForm(p) {
		t.Fatalf("MateForm of %+v is %q, not %q", p, form, modelForm(p))
	}
	read, ok := impl.MateRead(form)
	if !ok || !sameParcels([]impl.MateParcel{read}, []impl.MateParcel{p}) {
		t.Fatalf("%q is read as %+v, %v, not %+v", form, read, ok, p)
	}
	if second, ok := modelMailRead(form); !ok || !sameParcels([]impl.MateParcel{second}, []impl.MateParcel{p}) {
		t.Fatalf("%q is read as %+v, %v by the second reading, not %+v", form, second, ok, p)
	}
}

// checkMailRead holds MateRead of a text against the second reading, and promise 13: it reads nothing that is no form. It tells whether the text was read.
func checkMailRead(t *testing.T, s string) bool {
	t.Helper()
	p, ok := impl.MateRead(s)
	want, wantOk := modelMailRead(s)
	if ok != wantOk || !sameParcels([]impl.MateParcel{p}, []impl.MateParcel{want}) {
		t.Fatalf("%q is read as %+v, %v, not %+v, %v", s, p, ok, want, wantOk)
	}
	if ok && impl.MateForm(p) != s {
		t.Fatalf("%q is read as %+v, whose form is %q", s, p, impl.MateForm(p))
	}
	if !ok && !reflect.DeepEqual(p, impl.MateParcel{}) {
		t.Fatalf("%q is not read, as %+v", s, p)
	}
	return ok
}

// randomMail is a parcel of any kind, mostly with a form, and mostly with what its kind uses alone.
func randomMail(r *rand.Rand) impl.MateParcel {
	p := impl.MateParcel{Kind: 1 + r.Intn(6), Berth: pickOf(r, "a", "b", "want", "*", "~~~~~~~~~~~~~~~~~~~~")}
	switch p.Kind {
	case 1:
		p.Seen, p.Wants = pickOf(r, 1, 2, 10, 999999, 1000000), fewWants(r, r.Intn(11))
	case 6:
		p.Seen = pickOf(r, 0, 1, 10, 1000000)
	case 5:
		p.Hold, p.At = pickOf(r, "v", "h1", "**"), pickOf(r, 0, 1, 10, 1000000)
	default:
		p.Hold, p.Copy, p.At = pickOf(r, "v", "h1", "**"), pickOf(r, "x", "*", "told"), pickOf(r, 0, 1, 10, 1000000)
	}
	switch r.Intn(24) {
	case 0:
		p.Kind = pickOf(r, 1, 2, 3, 4, 5, 6, 0, 7, -1, math.MinInt, math.MaxInt)
	case 1:
		p.Seen = pickOf(r, 0, 1, -1, 1000001, math.MinInt, math.MaxInt)
	case 2:
		p.At = pickOf(r, 0, 1, -1, 1000001, math.MinInt, math.MaxInt)
	case 3:
		p.Wants = randomWants(r)
	case 4:
		p.Berth = pickOf(r, append(notNames(), "a 1", "a 1\nwant", "a 1\n")...)
	case 5:
		p.Hold = pickOf(r, append(notNames(), "*", "v x", "v 1\n")...)
	case 6:
		p.Copy = pickOf(r, append(notNames(), "*", "x 1", "x 1\n")...)
	}
	return p
}

func TestMateFormAsRead(t *testing.T) {
	t.Parallel()
	r := rand.New(rand.NewSource(78))
	met := map[string]int{}
	for range 60000 {
		p := randomMail(r)
		faults := modelMailFaults(p)
		checkMailForm(t, p, len(faults) == 0)
		if len(faults) == 0 {
			met[fmt.Sprint("kind ", p.Kind)]++
		}
		for _, f := range faults {
			met[f]++
		}
	}
	for _, what := range []string{"kind 1", "kind 2", "kind 3", "kind 4", "kind 5", "kind 6", "kind", "berth", "seen", "seen unused", "wants", "wants unused", "hold", "hold unused", "at", "at unused", "copy", "copy unused"} {
		if met[what] < 100 {
			t.Errorf("the parcels tell too little of %q: %v", what, met)
		}
	}
}

// spoil changes a text in some small way, or not at all.
func spoil(r *rand.Rand, s string) string {
	at := r.Intn(len(s) + 1)
	behind := min(len(s), at+1)
	words := strings.SplitAfter(s, " ")
	lines := strings.SplitAfter(s, "\n")
	switch r.Intn(9) {
	case 0:
		return s[:at] + s[behind:]
	case 1:
		return s[:at] + pickOf(r, " ", "\n", "0", "1", "-", "+", "*", "\t", "\r", "_", "\x00", "\x7f", "é") + s[at:]
	case 2:
		return s[:at] + pickOf(r, " ", "\n", "0", "9", "-", "~", "*", "a") + s[behind:]
	case 3:
		return s[:at]
	case 4:
		at := r.Intn(len(words))
		return strings.Join(slices.Delete(words, at, at+1), "")
	case 5:
		at := r.Intn(len(words))
		return strings.Join(slices.Insert(words, at, pickOf(r, words...)), "")
	case 6:
		at := r.Intn(len(lines))
		return strings.Join(slices.Insert(lines, at, pickOf(r, append(lines, "want z 1 * 0 0 0 0\n")...)), "")
	case 7:
		r.Shuffle(len(lines), func(i, j int) { lines[i], lines[j] = lines[j], lines[i] })
		return strings.Join(lines, "")
	}
	return s
}

func TestMateReadAsRead(t *testing.T) {
	t.Parallel()
	r := rand.New(rand.NewSource(79))
	met := map[bool]int{}
	for range 60000 {
		p := randomMail(r)
		if p.Kind < 1 || p.Kind > 6 {
			continue
		}
		s := modelForm(p)
		for range r.Intn(3) {
			s = spoil(r, s)
		}
		met[checkMailRead(t, s)]++
	}
	if met[true] < 10000 || met[false] < 10000 {
		t.Errorf("the texts tell too little: %v", met)
	}
}

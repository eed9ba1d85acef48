package tests

import (
	"math/rand"
	"slices"
	"strings"
	"testing"

	"loop.example/wharffleet/impl"
)

// checkRead holds PilotParse of a text, and what promise 1 says of it, against the second reading.
func checkRead(t *testing.T, s string) {
	t.Helper()
	want, code := modelParse(s)
	got, c := impl.PilotParse(s)
	if c != code || !slices.Equal(got.Nodes, want) {
		t.Fatalf("PilotParse(%q) is %+v, %d, not %+v, %d", s, got.Nodes, c, want, code)
	}
	if printed := impl.PilotPrint(got); printed != "" {
		if again, c := impl.PilotParse(printed); c != 0 || !slices.Equal(again.Nodes, got.Nodes) {
			t.Fatalf("%q is printed as %q, which is read as %+v, %d", s, printed, again.Nodes, c)
		}
	}
}

// All texts of up to six of the bytes that mean something.
func TestPromise1AllShortTexts(t *testing.T) {
	const signs = "a=!&|() "
	texts := []string{""}
	for range 6 {
		var longer []string
		for _, s := range texts {
			for _, b := range signs {
				longer = append(longer, s+string(b))
			}
		}
		for _, s := range longer {
			checkRead(t, s)
		}
		texts = longer
	}
}

func randomTree(r *rand.Rand, depth int) nodes {
	names := []string{"a", "b", "c", "zone", "a-1", strings.Repeat("n", 20)}
	pick := func() string { return names[r.Intn(len(names))] }
	kind := 1 + r.Intn(2)
	if depth > 0 && r.Intn(5) > 0 {
		kind = 3 + r.Intn(3)
	}
	switch kind {
	case impl.PilotName:
		return name(pick())
	case impl.PilotValue:
		return value(pick(), pick())
	case impl.PilotNot:
		return not(randomTree(r, depth-1))
	case impl.PilotAnd:
		return and(randomTree(r, depth-1), randomTree(r, depth-1))
	}
	return or(randomTree(r, depth-1), randomTree(r, depth-1))
}

// Longer texts of all kinds, as they are and with a few bytes changed.
func TestPromise1RandomTexts(t *testing.T) {
	r := rand.New(rand.NewSource(1))
	for range 20000 {
		list := randomTree(r, 1+r.Intn(6))
		text := modelFlat(list)
		if r.Intn(2) == 0 {
			text = modelBracketed(list)
		}
		text = strings.Repeat("!", r.Intn(3)*r.Intn(12)) + text
		checkRead(t, text)
		bytes := []byte(text)
		for range 1 + r.Intn(3) {
			bytes[r.Intn(len(bytes))] = "ab=!&|() A\x00"[r.Intn(11)]
		}
		checkRead(t, string(bytes))
	}
}

// checkTree holds what is promised of one valid list that can be printed.
func checkTree(t *testing.T, list nodes) {
	t.Helper()
	printed := impl.PilotPrint(selectOf(list))
	if flat := strings.NewReplacer("(", "", ")", "").Replace(printed); flat != modelFlat(list) {
		t.Fatalf("%+v is printed as %q", list, printed)
	}
	for _, s := range []string{printed, modelBracketed(list)} {
		if got, c := impl.PilotParse(s); c != 0 || !slices.Equal(got.Nodes, list) {
			t.Fatalf("%q is read as %+v, %d, not as %+v", s, got.Nodes, c, list)
		}
	}
	for _, fewer := range withoutOnePair(printed) {
		if got, c := impl.PilotParse(fewer); c == 0 && slices.Equal(got.Nodes, list) {
			t.Fatalf("%q has brackets that are not needed: %q", printed, fewer)
		}
	}
}

// withoutOnePair are the texts that have one pair of brackets less.
func withoutOnePair(s string) []string {
	var texts []string
	var open []int
	for i := range len(s) {
		switch s[i] {
		case '(':
			open = append(open, i)
		case ')':
			o := open[len(open)-1]
			open = open[:len(open)-1]
			texts = append(texts, s[:o]+s[o+1:i]+s[i+1:])
		}
	}
	return texts
}

func TestPromise1AllSmallTrees(t *testing.T) {
	for size := 1; size <= 6; size++ {
		for _, list := range modelTrees(size, []nodes{name("a"), value("b", "c")}) {
			checkTree(t, list)
		}
	}
	for _, list := range modelTrees(9, []nodes{name("a")}) {
		checkTree(t, list)
	}
}

func TestPromise1RandomTrees(t *testing.T) {
	r := rand.New(rand.NewSource(2))
	printed, long := 0, 0
	for range 20000 {
		list := randomTree(r, 1+r.Intn(8))
		x := selectOf(list)
		s := impl.PilotPrint(x)
		if s == "" {
			long++
			if least := len(modelFlat(list)); least+len(list)*2 <= 200 {
				t.Fatalf("%+v is not printed", list)
			}
			continue
		}
		printed++
		if len(s) > 200 {
			t.Fatalf("%q has %d bytes", s, len(s))
		}
		if got, c := impl.PilotParse(s); c != 0 || !slices.Equal(got.Nodes, list) {
			t.Fatalf("%q is read as %+v, %d", s, got.Nodes, c)
		}
	}
	if printed < 1000 || long < 1000 {
		t.Errorf("%d printed, %d too long: the trees tell too little", printed, long)
	}
}

// All lists of up to four nodes, of nodes that are right and nodes that are nearly so.
func TestPilotAllShortLists(t *testing.T) {
	some := nodes{
		{Kind: impl.PilotNone}, {Kind: impl.PilotNone, Kids: 1},
		{Kind: impl.PilotName, Name: "a"}, {Kind: impl.PilotName, Name: "a", Value: "b"}, {Kind: impl.PilotName, Name: "a", Kids: 1}, {Kind: impl.PilotName},
		{Kind: impl.PilotValue, Name: "b", Value: "c"}, {Kind: impl.PilotValue, Name: "b"}, {Kind: impl.PilotValue, Name: "b", Value: "c", Kids: 2},
		{Kind: impl.PilotNot, Kids: 1}, {Kind: impl.PilotNot}, {Kind: impl.PilotNot, Kids: 1, Name: "a"}, {Kind: impl.PilotNot, Kids: 2},
		{Kind: impl.PilotAnd, Kids: 2}, {Kind: impl.PilotAnd, Kids: 1}, {Kind: impl.PilotAnd, Kids: 2, Value: "b"},
		{Kind: impl.PilotOr, Kids: 2}, {Kind: impl.PilotOr, Kids: 3}, {Kind: impl.PilotOr, Kids: -1},
		{Kind: 6, Kids: 1},
	}
	lists := []nodes{nil}
	for range 4 {
		var longer []nodes
		for _, list := range lists {
			for _, n := range some {
				longer = append(longer, append(slices.Clone(list), n))
			}
		}
		for _, list := range longer {
			checkList(t, list)
		}
		lists = longer
	}
}

func checkList(t *testing.T, list nodes) {
	t.Helper()
	if !modelValid(list) {
		checkNotValid(t, list)
		return
	}
	if list[0].Kind != impl.PilotNone {
		checkTree(t, list)
	}
	for _, marks := range manyMarks {
		if got := impl.PilotMeets(selectOf(list), marks); got != modelMeets(list, marks) {
			t.Errorf("PilotMeets(%+v, %q) is %v", list, marks, got)
		}
	}
}

func TestPromise1MarksInAnyOrder(t *testing.T) {
	r := rand.New(rand.NewSource(3))
	all := []string{"a", "a=b", "a=c", "b", "b=a", "c=zone", "zone=a", "zone", "a-1=a-1", "A", "a=", "", "a b", strings.Repeat("n", 20), strings.Repeat("n", 21), "a=b=c"}
	met := 0
	for range 5000 {
		x := selectOf(randomTree(r, 1+r.Intn(5)))
		marks := slices.Clone(all)
		r.Shuffle(len(marks), func(i, j int) { marks[i], marks[j] = marks[j], marks[i] })
		marks = marks[:r.Intn(len(marks)+1)]
		want := modelMeets(x.Nodes, marks)
		if want {
			met++
		}
		for range 5 {
			if got := impl.PilotMeets(x, marks); got != want {
				t.Fatalf("PilotMeets(%q, %q) is %v", impl.PilotPrint(x), marks, got)
			}
			if n := len(marks); n > 0 { // one that is there twice is as one
				marks = append(marks, marks[r.Intn(n)])
			}
			r.Shuffle(len(marks), func(i, j int) { marks[i], marks[j] = marks[j], marks[i] })
		}
	}
	if met < 500 || met > 4500 {
		t.Errorf("%d of 5000 are met: the marks tell too little", met)
	}
}

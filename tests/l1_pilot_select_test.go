package tests

import (
	"math"
	"slices"
	"strings"
	"testing"

	"loop.example/wharffleet/impl"
)

func checkParse(t *testing.T, s string, want nodes, code int) {
	t.Helper()
	got, c := impl.PilotParse(s)
	if c != code || !slices.Equal(got.Nodes, want) {
		t.Errorf("PilotParse(%q) is %+v, %d, not %+v, %d", s, got.Nodes, c, want, code)
	}
}

func checkPrint(t *testing.T, list nodes, want string) {
	t.Helper()
	if got := impl.PilotPrint(selectOf(list)); got != want {
		t.Errorf("PilotPrint(%+v) is %q, not %q", list, got, want)
	}
}

// Marks that meet much and marks that meet little: a list that is not valid meets neither.
var manyMarks = [][]string{nil, {"a"}, {"a", "b=c", "c"}, {"zone=z", "b"}}

func checkNotValid(t *testing.T, list nodes) {
	t.Helper()
	if got := impl.PilotPrint(selectOf(list)); got != "" {
		t.Errorf("PilotPrint of %+v, not valid, is %q", list, got)
	}
	for _, marks := range manyMarks {
		if impl.PilotMeets(selectOf(list), marks) {
			t.Errorf("PilotMeets of %+v, not valid, is true at %q", list, marks)
		}
	}
}

func TestPilotParseForms(t *testing.T) {
	a, b, c, d := name("a"), name("b"), name("c"), name("d")
	for _, x := range []struct {
		text string
		want nodes
	}{
		{"a", a},
		{"a-z_09", name("a-z_09")},
		{"-", name("-")},
		{"_", name("_")},
		{"0", name("0")},
		{"a=b", value("a", "b")},
		{"-=_", value("-", "_")},
		{"!a", not(a)},
		{"!!a", not(not(a))},
		{"!a=b", not(value("a", "b"))},
		{"a&b", and(a, b)},
		{"a|b", or(a, b)},
		{"(a)", a},
		{"((a=b))", value("a", "b")},
		{"a|b&c", or(a, and(b, c))},
		{"a&b|c", or(and(a, b), c)},
		{"a&b|c&d", or(and(a, b), and(c, d))},
		{"!a&b", and(not(a), b)},
		{"!a|b", or(not(a), b)},
		{"a&!b", and(a, not(b))},
		{"!(a&b)", not(and(a, b))},
		{"a|b|c", or(or(a, b), c)},
		{"a&b&c", and(and(a, b), c)},
		{"a|b|c|d", or(or(or(a, b), c), d)},
		{"a|(b|c)", or(a, or(b, c))},
		{"a&(b&c)", and(a, and(b, c))},
		{"(a|b)&c", and(or(a, b), c)},
		{"a&(b|c)", and(a, or(b, c))},
		{"(a|b)&(c|d)", and(or(a, b), or(c, d))},
	} {
		checkParse(t, x.text, x.want, 0)
	}
}

func TestPilotParseSpaces(t *testing.T) {
	for _, x := range []struct {
		text string
		want nodes
	}{
		{"  a  ", name("a")},
		{"a =b", value("a", "b")},
		{"a= b", value("a", "b")},
		{"  a   =   b  ", value("a", "b")},
		{" ! a ", not(name("a"))},
		{"! ! a", not(not(name("a")))},
		{"( a )", name("a")},
		{" ( ( a=b ) ) ", value("a", "b")},
		{"a&  b |c", or(and(name("a"), name("b")), name("c"))},
	} {
		checkParse(t, x.text, x.want, 0)
	}
	checkParse(t, "a b", nil, 2)
	checkParse(t, "a - b", nil, 2)
	checkParse(t, "a=b c", nil, 2)
}

func TestPilotPrintForms(t *testing.T) {
	a, b, c, d := name("a"), name("b"), name("c"), name("d")
	for _, x := range []struct {
		list nodes
		want string
	}{
		{none(), ""},
		{a, "a"},
		{value("a", "b"), "a=b"},
		{not(a), "!a"},
		{not(not(a)), "!!a"},
		{not(value("a", "b")), "!a=b"},
		{and(a, b), "a & b"},
		{or(a, b), "a | b"},
		{not(and(a, b)), "!(a & b)"},
		{not(or(a, b)), "!(a | b)"},
		{and(not(a), not(b)), "!a & !b"},
		{or(not(a), not(b)), "!a | !b"},
		{or(a, and(b, c)), "a | b & c"},
		{or(and(a, b), c), "a & b | c"},
		{and(a, or(b, c)), "a & (b | c)"},
		{and(or(a, b), c), "(a | b) & c"},
		{or(or(a, b), c), "a | b | c"},
		{or(a, or(b, c)), "a | (b | c)"},
		{and(and(a, b), c), "a & b & c"},
		{and(a, and(b, c)), "a & (b & c)"},
		{or(or(a, b), or(c, d)), "a | b | (c | d)"},
		{not(not(or(a, not(and(b, c))))), "!!(a | !(b & c))"},
	} {
		checkPrint(t, x.list, x.want)
	}
}

func TestPilotParseWithoutName(t *testing.T) {
	for _, n := range []int{0, 1, 2, 199, 200} {
		s := strings.Repeat(" ", n)
		checkParse(t, s, none(), 0)
	}
	checkParse(t, strings.Repeat(" ", 201), nil, 1)
	for _, marks := range manyMarks {
		if !impl.PilotMeets(selectOf(none()), marks) {
			t.Errorf("nothing is asked for, but %q does not meet it", marks)
		}
	}
}

func TestPilotNameSize(t *testing.T) {
	n20, n21 := strings.Repeat("n", 20), strings.Repeat("n", 21)
	checkParse(t, n20, name(n20), 0)
	checkParse(t, n21, nil, 2)
	checkParse(t, n20+"="+n20, value(n20, n20), 0)
	checkParse(t, n21+"=a", nil, 2)
	checkParse(t, "a="+n21, nil, 2)
	checkParse(t, n20+"|"+n21, nil, 2)
	checkPrint(t, name(n20), n20)
	checkPrint(t, value(n20, n20), n20+"="+n20)
	for _, list := range []nodes{name(n21), value(n21, "a"), value("a", n21), not(name(n21))} {
		checkNotValid(t, list)
	}
	for _, x := range []struct {
		text  string
		marks []string
		want  bool
	}{
		{n20, []string{n20}, true},
		{n20, []string{n21}, false},
		{n20, []string{n20 + "=" + n20}, true},
		{n20, []string{n20 + "=" + n21}, false},
		{n20 + "=" + n20, []string{n20 + "=" + n20}, true},
		{n20 + "=" + n20, []string{n20 + "=" + n21}, false},
		{"a", []string{"a=" + n21}, false},
	} {
		checkMeets(t, x.text, x.marks, x.want)
	}
}

func checkMeets(t *testing.T, text string, marks []string, want bool) {
	t.Helper()
	x, c := impl.PilotParse(text)
	if c != 0 {
		t.Fatalf("PilotParse(%q) has code %d", text, c)
	}
	if got := impl.PilotMeets(x, marks); got != want {
		t.Errorf("PilotMeets(%q, %q) is %v", text, marks, got)
	}
}

func TestPilotNameBytes(t *testing.T) {
	for b := range 256 {
		one, inside := string([]byte{byte(b)}), string([]byte{'a', byte(b), 'z'})
		if strings.Contains(nameBytes, one) {
			checkParse(t, one, name(one), 0)
			checkParse(t, inside, name(inside), 0)
			checkPrint(t, name(inside), inside)
			checkMeets(t, inside, []string{inside}, true)
			continue
		}
		if b != ' ' {
			checkParse(t, one, nil, 2)
		}
		if !strings.Contains("=&|", one) {
			checkParse(t, inside, nil, 2)
		}
		checkNotValid(t, name(one))
		checkNotValid(t, value("a", inside))
		if b != '=' {
			checkMeets(t, "a | z", []string{one, inside}, false)
		}
	}
}

func TestPilotParseSize(t *testing.T) {
	pad := func(s string, n int) string { return s + strings.Repeat(" ", n-len(s)) }
	checkParse(t, pad("a", 200), name("a"), 0)
	checkParse(t, pad("a", 201), nil, 1)
	names := strings.Repeat("n", 20) + strings.Repeat("&"+strings.Repeat("n", 20), 8)
	if got, c := impl.PilotParse(names + "&" + strings.Repeat("n", 11)); c != 0 || len(got.Nodes) != 19 {
		t.Errorf("a select of 200 bytes: %+v, %d", got, c)
	}
	checkParse(t, names+"&"+strings.Repeat("n", 12), nil, 1)
	checkParse(t, strings.Repeat("\x00", 200), nil, 2)
	checkParse(t, strings.Repeat("\x00", 201), nil, 1)
	checkParse(t, strings.Repeat("é", 100), nil, 2)
	checkParse(t, strings.Repeat("é", 101), nil, 1)
	checkParse(t, strings.Repeat("a", 1000000), nil, 1)
}

// deepNot, deepLeft and deepRight have a leaf with so many nodes above it.
func deepNot(n int) (string, nodes) {
	list := name("a")
	for range n {
		list = not(list)
	}
	return strings.Repeat("!", n) + "a", list
}

func deepLeft(sign string, op func(left, right nodes) nodes, n int) (string, nodes) {
	list := name("a")
	for range n {
		list = op(list, name("b"))
	}
	return "a" + strings.Repeat(sign+"b", n), list
}

func deepRight(sign string, op func(left, right nodes) nodes, n int) (string, nodes) {
	list := name("a")
	for range n {
		list = op(name("b"), list)
	}
	return strings.Repeat("b"+sign+"(", n) + "a" + strings.Repeat(")", n), list
}

func TestPilotNest(t *testing.T) {
	for _, deep := range []func(n int) (string, nodes){
		deepNot,
		func(n int) (string, nodes) { return deepLeft("|", or, n) },
		func(n int) (string, nodes) { return deepLeft("&", and, n) },
		func(n int) (string, nodes) { return deepRight("|", or, n) },
		func(n int) (string, nodes) { return deepRight("&", and, n) },
	} {
		for _, n := range []int{19, 20} {
			text, list := deep(n)
			checkParse(t, text, list, 0)
			checkParse(t, impl.PilotPrint(selectOf(list)), list, 0)
			for _, marks := range manyMarks {
				if got := impl.PilotMeets(selectOf(list), marks); got != modelMeets(list, marks) {
					t.Errorf("PilotMeets(%q, %q) is %v", text, marks, got)
				}
			}
		}
		for _, n := range []int{21, 22, 30} {
			text, list := deep(n)
			checkParse(t, text, nil, 3)
			checkNotValid(t, list)
		}
	}
}

func TestPilotNestCountsNodesAlone(t *testing.T) {
	checkParse(t, strings.Repeat("(", 99)+"a"+strings.Repeat(")", 99), name("a"), 0)
	text, list := deepNot(20)
	checkParse(t, "("+text+")", list, 0)
	checkParse(t, strings.Repeat("!(", 20)+"a"+strings.Repeat(")", 20), list, 0)
	// A part of its own that is as deep as can be has no room above it.
	checkParse(t, text+"&b", nil, 3)
	checkParse(t, "b|"+text, nil, 3)
	checkParse(t, "!("+text+")", nil, 3)
	checkNotValid(t, and(list, name("b")))
	checkNotValid(t, or(name("b"), list))
	text, list = deepNot(19)
	checkParse(t, text+"&b", and(list, name("b")), 0)
	checkParse(t, "b|"+text, or(name("b"), list), 0)
}

func TestPilotParseCodes(t *testing.T) {
	for _, s := range []string{
		"a b", "a|", "|a", "a||b", "a&", "&a", "a&&b", "a|&b", "a!b", "a!", "!", "!!", "!|a",
		"()", "( )", "(", ")", ")(", "(a", "a)", "((a)", "(a))", "(a)b", "a(b)", "(a)(b)", "()a", "a()", "!()",
		"=", "a=", "=a", "a==b", "a=b=c", "a=!b", "a=(b)", "(a)=b", "!a=", "a=|b", "a=b(c)",
		"A", "aB", "a.b", "a,b", "a\tb", "\ta", "a\n", "a\x00", "\xff", "é", "a=é", "a,", "a ;",
	} {
		checkParse(t, s, nil, 2)
	}
}

// Of several faults the one with the least code is told, wherever it stands.
func TestPilotParseFirstCode(t *testing.T) {
	deep := strings.Repeat("!", 21) + "a"
	for _, s := range []string{deep + "|", deep + " b", deep + "=", "(" + deep, deep + ")", "A&" + deep, deep + "&A", deep + "|" + strings.Repeat("n", 21), strings.Repeat("!", 200), strings.Repeat("(", 200), strings.Repeat("!(", 100)} {
		checkParse(t, s, nil, 2)
	}
	long := strings.Repeat(" ", 201)
	for _, s := range []string{deep + long, "A" + long, "a b" + long, deep + "|" + long} {
		checkParse(t, s, nil, 1)
	}
	checkParse(t, "b & ("+deep+")", nil, 3)
}

func TestPilotPrintSize(t *testing.T) {
	list := name(strings.Repeat("n", 20))
	want := strings.Repeat("n", 20)
	for range 7 {
		list, want = and(list, name(strings.Repeat("n", 20))), want+" & "+strings.Repeat("n", 20)
	}
	for _, n := range []int{15, 16} {
		last := strings.Repeat("m", n)
		checkPrint(t, and(list, name(last)), want+" & "+last)
	}
	full := and(list, name(strings.Repeat("m", 16)))
	if text := impl.PilotPrint(selectOf(full)); len(text) != 200 {
		t.Errorf("the print has %d bytes", len(text))
	} else {
		checkParse(t, text, full, 0)
	}
	checkPrint(t, and(list, name(strings.Repeat("m", 17))), "")
	checkPrint(t, and(list, value("m", strings.Repeat("m", 14))), want+" & m="+strings.Repeat("m", 14))
	checkPrint(t, and(list, value("m", strings.Repeat("m", 15))), "")
	// What comes behind a piece that is too long must not be written on its own.
	checkPrint(t, or(and(list, name(strings.Repeat("m", 17))), name("a")), "")
	// A bracket more is one byte too many, at the end as elsewhere.
	checkPrint(t, not(and(list, name(strings.Repeat("m", 13)))), "!("+want+" & "+strings.Repeat("m", 13)+")")
	checkPrint(t, not(and(list, name(strings.Repeat("m", 14)))), "")
	if !impl.PilotMeets(selectOf(and(list, name(strings.Repeat("m", 17)))), []string{strings.Repeat("n", 20), strings.Repeat("m", 17)}) {
		t.Error("a select that is too long to be printed is not met")
	}
}

// A select that was read may be too long to be written.
func TestPilotPrintLongerThanRead(t *testing.T) {
	n19 := strings.Repeat("n", 19)
	x, c := impl.PilotParse(n19 + strings.Repeat("|"+n19, 9))
	if c != 0 || len(x.Nodes) != 19 || impl.PilotPrint(x) != "" {
		t.Errorf("code %d, %d nodes, print %q", c, len(x.Nodes), impl.PilotPrint(x))
	}
}

func TestPilotNotValid(t *testing.T) {
	a, b := name("a"), name("b")
	for _, list := range []nodes{
		nil,
		{},
		{{Kind: impl.PilotNone, Name: "a"}},
		{{Kind: impl.PilotNone, Value: "a"}},
		{{Kind: impl.PilotNone, Kids: 1}},
		append(none(), none()...),
		append(none(), a...),
		append(slices.Clone(a), none()...),
		not(none()),
		and(none(), a),
		or(a, none()),
		join(impl.PilotNone, a),
		{{Kind: impl.PilotName}},
		{{Kind: impl.PilotName, Name: "a", Value: "b"}},
		{{Kind: impl.PilotName, Name: "A"}},
		{{Kind: impl.PilotName, Name: "a=b"}},
		{{Kind: impl.PilotName, Name: "a", Kids: 1}},
		{{Kind: impl.PilotName, Name: "a", Kids: -1}},
		{{Kind: impl.PilotValue, Name: "a"}},
		{{Kind: impl.PilotValue, Value: "a"}},
		{{Kind: impl.PilotValue, Name: "a", Value: "b "}},
		{{Kind: impl.PilotValue, Name: "a", Value: "b", Kids: 1}},
		{{Kind: impl.PilotNot}},
		{{Kind: impl.PilotNot, Kids: 1}},
		{{Kind: impl.PilotNot, Kids: 1}, a[0]},
		join(impl.PilotNot, a, b),
		{a[0], {Kind: impl.PilotNot, Kids: 0}},
		{a[0], {Kind: impl.PilotNot, Kids: 2}},
		{a[0], {Kind: impl.PilotNot, Kids: 1, Name: "a"}},
		{a[0], {Kind: impl.PilotNot, Kids: 1, Value: "a"}},
		{a[0], {Kind: impl.PilotAnd, Kids: 1}},
		{a[0], {Kind: impl.PilotAnd, Kids: 2}},
		{a[0], {Kind: impl.PilotOr, Kids: 2}, b[0]},
		{a[0], b[0], {Kind: impl.PilotAnd, Kids: 3}},
		{a[0], b[0], {Kind: impl.PilotAnd, Kids: 2, Name: "a"}},
		{a[0], b[0], {Kind: impl.PilotOr, Kids: 2, Value: "a"}},
		join(impl.PilotAnd, a, b, a),
		append(slices.Clone(a), b...),
		append(slices.Clone(a), and(a, b)...),
		{{Kind: 6}},
		{{Kind: -1}},
		join(6, a),
		join(6, a, b),
		{a[0], {Kind: impl.PilotNot, Kids: math.MaxInt}},
		{a[0], {Kind: impl.PilotNot, Kids: math.MinInt}},
		{a[0], {Kind: math.MaxInt, Kids: 1}},
		{a[0], {Kind: math.MinInt, Kids: 1}},
	} {
		checkNotValid(t, list)
	}
}

func TestPilotManyNodes(t *testing.T) {
	t.Parallel()
	long := name("a")
	for range 1000000 {
		long = append(long, impl.PilotNode{Kind: impl.PilotNot, Kids: 1})
	}
	checkNotValid(t, long)
	wide := slices.Repeat(name("a"), 1000000)
	checkNotValid(t, wide)
	full := name("a")
	for range 20 {
		full = and(full, full)
	}
	checkPrint(t, full, "")
	if !impl.PilotMeets(selectOf(full), []string{"a"}) || impl.PilotMeets(selectOf(full), []string{"b"}) {
		t.Error("the tree with all the nodes that there can be")
	}
}

func TestPilotMeets(t *testing.T) {
	for _, x := range []struct {
		text  string
		marks string
		want  bool
	}{
		{"a", "a", true},
		{"a", "a=x", true},
		{"a", "", false},
		{"a", "b", false},
		{"a", "b=a", false},
		{"a", "aa a-1 a0=a", false},
		{"a=x", "a=x", true},
		{"a=x", "a", false},
		{"a=x", "x", false},
		{"a=x", "a=y", false},
		{"a=x", "a=xx", false},
		{"a=x", "a x x=a", false},
		{"a=x & a=y", "a=x a=y", true},
		{"a=x & a=y", "a=y a a=x a=x", true},
		{"a & !a=x", "a=y", true},
		{"a & !a=x", "a=y a=x", false},
		{"!a", "", true},
		{"!a", "a", false},
		{"!a=x", "a", true},
		{"!a=x", "a a=x", false},
		{"a & b", "a", false},
		{"a & b", "b", false},
		{"a & b", "a b", true},
		{"a | b", "a", true},
		{"a | b", "b", true},
		{"a | b", "c", false},
		{"a | b & c", "a", true},
		{"(a | b) & c", "a", false},
		{"!a & b", "b", true},
		{"!(a & b)", "b", true},
		{"!(a & b)", "a b", false},
		{"", "", true},
		{"", "a", true},
	} {
		checkMeets(t, x.text, strings.Fields(x.marks), x.want)
	}
}

func TestPilotMeetsNoMarks(t *testing.T) {
	bad := []string{"", " ", "=", "a=", "=a", "=a=", "a==b", "a=b=c", " a", "a ", "a =b", "a= b", "A", "a.", "!a", "(a)", "a|b", "a=B", "a\x00", strings.Repeat("a", 21), "a=" + strings.Repeat("b", 21)}
	for _, m := range bad {
		checkMeets(t, "a", []string{m}, false)
		checkMeets(t, "a | b | c | a=b | b=c", []string{m}, false)
		checkMeets(t, "!a & !a=b", []string{m}, true)
		checkMeets(t, "", []string{m}, true)
		checkMeets(t, "a=b", []string{m, "a=b", m}, true)
	}
	checkMeets(t, "a | b | c", bad, false)
}

func TestPilotSelectArguments(t *testing.T) {
	spare := impl.PilotNode{Kind: 77, Name: "spare"}
	for _, list := range []nodes{none(), or(and(name("a"), value("b", "c")), not(name("d"))), name("A"), append(name("a"), name("b")...)} {
		room := append(slices.Clone(list), spare, spare)
		held := slices.Clone(room)
		marks := []string{"b=c", "x y", "a", "spare"}
		heldMarks := slices.Clone(marks)
		impl.PilotPrint(selectOf(room[:len(list)]))
		impl.PilotMeets(selectOf(room[:len(list)]), marks[:3])
		if !slices.Equal(room, held) || !slices.Equal(marks, heldMarks) {
			t.Errorf("an argument was written: %+v, %q", room, marks)
		}
	}
}

func TestPilotParseNewMemory(t *testing.T) {
	for _, s := range []string{"", "a", "a | b=c & !d"} {
		first, _ := impl.PilotParse(s)
		held := slices.Clone(first.Nodes)
		second, _ := impl.PilotParse(s)
		for i := range second.Nodes[:cap(second.Nodes)] {
			second.Nodes[:cap(second.Nodes)][i] = impl.PilotNode{Kind: 9, Name: "x", Value: "y", Kids: 9}
		}
		if !slices.Equal(first.Nodes, held) {
			t.Errorf("two answers at %q share memory", s)
		}
		checkParse(t, s, held, 0)
	}
}

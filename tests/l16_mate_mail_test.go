package tests

import (
	"fmt"
	"math"
	"math/big"
	"slices"
	"strings"
	"testing"

	"loop.example/wharffleet/impl"
)

// knownForms are parcels and what they are written as.
func knownForms() map[string]impl.MateParcel {
	long := strings.Repeat("~", 20)
	told := func(berth string, seen int, wants ...impl.MateWant) impl.MateParcel {
		return impl.MateParcel{Kind: impl.MateTold, Berth: berth, Seen: seen, Wants: wants}
	}
	return map[string]impl.MateParcel{
		"told a 1\n":             told("a", 1),
		"told want 1000000\n":    told("want", 1000000),
		"told " + long + " 10\n": told(long, 10),
		"told a 3\nwant x 2 v 1 2 3 4\nwant y 1 * 0 0 0 0\n": told("a", 3, impl.MateWant{Copy: "x", Version: 2, Hold: "v", Pull: 1, Start: 2, Dies: 3, Grace: 4}, wantOf("y", "")),
		"told * 1\nwant * 1 ** 0 0 0 0\n":                    told("*", 1, wantOf("*", "**")),
		"told 0 1\nwant 0 1000000 0 100 100 100 100\n":       told("0", 1, impl.MateWant{Copy: "0", Version: 1000000, Hold: "0", Pull: 100, Start: 100, Dies: 100, Grace: 100}),
		"told a 1\nwant want 1 want 0 0 0 0\n":               told("a", 1, wantOf("want", "want")),
		"asked a v x 0\n":                                    askedBy("a", "v", "x", 0),
		"asked a v x 1000000\n":                              askedBy("a", "v", "x", 1000000),
		"asked * ** * 10\n":                                  askedBy("*", "**", "*", 10),
		"asked " + long + " " + long + " " + long + " 7\n":   askedBy(long, long, long, 7),
		"given a v x 1\n":                                    {Kind: impl.MateGiven, Berth: "a", Hold: "v", Copy: "x", At: 1},
		"given 0 1 2 3\n":                                    {Kind: impl.MateGiven, Berth: "0", Hold: "1", Copy: "2", At: 3},
		"back a v x 1\n":                                     backOf("a", "v", "x", 1),
		"back back back back 999999\n":                       backOf("back", "back", "back", 999999),
		"gotback a v 7\n":                                    gotBackTo("v", 7),
		"gotback a v 0\n":                                    gotBackTo("v", 0),
		"here a 0\n":                                         {Kind: impl.MateHere, Berth: "a"},
		"here here 1000000\n":                                {Kind: impl.MateHere, Berth: "here", Seen: 1000000},
	}
}

func TestMateForm(t *testing.T) {
	for want, p := range knownForms() {
		checkMailForm(t, p, true)
		if got := impl.MateForm(p); got != want {
			t.Errorf("MateForm of %+v is %q, not %q", p, got, want)
		}
		if got, ok := impl.MateRead(want); !ok || !sameParcels([]impl.MateParcel{got}, []impl.MateParcel{p}) {
			t.Errorf("%q is read as %+v, %v, not %+v", want, got, ok, p)
		}
		p.Wants = append([]impl.MateWant{}, p.Wants...) // an empty list is none
		checkMailForm(t, p, true)
	}
}

// Each number of wants, up to the most and beyond; what is read is the same wants in the same order.
func TestMateFormWants(t *testing.T) {
	for _, n := range []int{0, 1, 2, 9, 10, 11, 12, 100} {
		for _, make := range []func(name string) impl.MateWant{
			func(name string) impl.MateWant { return wantOf(name, "") },
			func(name string) impl.MateWant { return wantOf(name, name) },
			func(name string) impl.MateWant {
				return impl.MateWant{Copy: (name + strings.Repeat("~", 20))[:20], Version: 1000000, Hold: ("h" + name + strings.Repeat("~", 20))[:20], Pull: 100, Start: 100, Dies: 100, Grace: 100}
			},
		} {
			p := toldTo(1000000, numbered(n, make)...)
			checkMailForm(t, p, n <= 10)
			form := modelForm(p)
			if got := checkMailRead(t, form); got != (n <= 10) {
				t.Errorf("%d wants: %v", n, got)
			}
			if n <= 10 && strings.Count(form, "\n") != n+1 {
				t.Error(form)
			}
		}
	}
}

// bareParcels are one of each kind, with what it uses alone.
func bareParcels() []impl.MateParcel {
	return []impl.MateParcel{
		toldTo(1), toldTo(7, severalWants()...), askedBy("a", "v", "x", 5), {Kind: impl.MateGiven, Berth: "a", Hold: "v", Copy: "x", At: 5},
		backOf("a", "v", "x", 5), gotBackTo("v", 5), {Kind: impl.MateHere, Berth: "a", Seen: 7},
	}
}

// Each part of each kind: at its limits, beyond them, and where the kind does not use it.
func TestMateFormParts(t *testing.T) {
	for _, bare := range bareParcels() {
		checkMailForm(t, bare, true)
		uses := func(kinds ...int) bool { return slices.Contains(kinds, bare.Kind) }
		change := func(want bool, change func(p *impl.MateParcel)) {
			t.Helper()
			p := bare
			change(&p)
			checkMailForm(t, p, want)
		}
		for _, name := range append(theirNames(), notNames()...) {
			ok := modelMateName.MatchString(name)
			change(ok, func(p *impl.MateParcel) { p.Berth = name })
			change(ok && uses(2, 3, 4, 5) || name == "" && uses(1, 6), func(p *impl.MateParcel) { p.Hold = name })
			change(ok && uses(2, 3, 4) || name == "" && uses(1, 5, 6), func(p *impl.MateParcel) { p.Copy = name })
		}
		change(true, func(p *impl.MateParcel) { p.Berth = "*" })
		change(false, func(p *impl.MateParcel) { p.Hold = "*" })
		change(uses(2, 3, 4), func(p *impl.MateParcel) { p.Copy = "*" })
		for _, n := range []int{math.MinInt, -1000000, -1, 0, 1, 10, 999999, 1000000, 1000001, 2000000, math.MaxInt} {
			in := n >= 0 && n <= 1000000
			change(in && uses(2, 3, 4, 5) || n == 0, func(p *impl.MateParcel) { p.At = n })
			change(in && uses(6) || in && n > 0 && uses(1) || n == 0 && !uses(1), func(p *impl.MateParcel) { p.Seen = n })
		}
		change(uses(1), func(p *impl.MateParcel) { p.Wants = severalWants() })
		change(uses(1), func(p *impl.MateParcel) { p.Wants = severalWants()[:1] })
		change(false, func(p *impl.MateParcel) { p.Wants = []impl.MateWant{{}} })
		change(true, func(p *impl.MateParcel) { p.Wants = nil })
		for _, kind := range []int{math.MinInt, -6, -1, 0, 7, 8, 256, math.MaxInt} {
			change(false, func(p *impl.MateParcel) { p.Kind = kind })
		}
	}
	checkMailForm(t, impl.MateParcel{}, false)
}

// A parcel as another kind: only where it has just what that one uses too.
func TestMateFormOfOtherKinds(t *testing.T) {
	for _, bare := range bareParcels() {
		for kind := 1; kind <= 6; kind++ {
			p := bare
			p.Kind = kind
			alike := func(kinds ...int) bool { return slices.Contains(kinds, kind) && slices.Contains(kinds, bare.Kind) }
			checkMailForm(t, p, kind == bare.Kind || alike(2, 3, 4) || alike(1, 6) && len(bare.Wants) == 0)
		}
	}
}

func TestMateFormOfEachWant(t *testing.T) {
	for _, c := range allWantChanges() {
		for at := range 4 {
			p := toldTo(1, severalWants()...)
			c.change(&p.Wants[at])
			checkMailForm(t, p, modelWantsOk(p.Wants))
		}
		p := toldTo(1, wantOf("c", "h"))
		c.change(&p.Wants[0])
		checkMailForm(t, p, c.ok)
		if !c.ok {
			checkMailRead(t, modelForm(p))
		}
	}
}

// Wants that are not ok as a list.
func TestMateFormWantsThatAreNone(t *testing.T) {
	for _, wants := range [][]impl.MateWant{
		wantsCalled("b", "a"), wantsCalled("a", "a"), wantsCalled("a", "b", "d", "c"), wantsCalled("aa", "a"),
		{wantOf("a", "v"), wantOf("b", "v")}, {wantOf("a", "v"), wantOf("b", ""), wantOf("c", "v")}, {wantOf("a", " ")},
	} {
		checkMailForm(t, toldTo(1, wants...), false)
		if checkMailRead(t, modelForm(toldTo(1, wants...))) {
			t.Errorf("%+v are read", wants)
		}
	}
	// What stands for no hold is none: written as it is, it would be read as no hold.
	checkMailForm(t, toldTo(1, wantOf("a", "*")), false)
}

// A parcel whose parts, written, would look like the form of another one.
func TestMateFormDoesNotMix(t *testing.T) {
	for _, p := range []impl.MateParcel{
		{Kind: impl.MateHere, Berth: "a 1\nhere b"}, {Kind: impl.MateTold, Berth: "a 1\nwant x", Seen: 1}, {Kind: impl.MateTold, Berth: "a 1\nwant x 1 * 0 0 0", Seen: 1},
		askedBy("a b", "", "x", 1), askedBy("", "a", "b c", 1), askedBy("a", "v x", "", 1), askedBy("a", "v", "x 1", 1), askedBy("a", "v", "x 1\nhere b", 1),
		{Kind: impl.MateGotBack, Berth: "a v", At: 1}, {Kind: impl.MateGotBack, Berth: "a", Hold: "v 1\ngotback a v", At: 1},
		toldTo(1, wantOf("x 1", "v")), toldTo(1, wantOf("x 1 v 0 0 0 0\nwant y", "")), toldTo(1, impl.MateWant{Copy: "x", Version: 1, Hold: "v 0 0 0 0\nwant y 1 *"}),
	} {
		checkMailForm(t, p, false)
	}
}

// Texts that are nearly a form.
func TestMateReadNot(t *testing.T) {
	for _, s := range []string{
		"", "\n", " ", "\n\n", "told", "told\n", "told \n", "told a\n", "told a \n", "here\n", "a\n", "0\n", "*\n",
		"told a 3", "told a 3\n\n", "\ntold a 3\n", " told a 3\n", "told  a 3\n", "told a  3\n", "told a 3 \n", "told a 3\r\n", "told\ta 3\n", "told a 3\x00", "told a 3 4\n", "told a b 3\n", "told a\n3\n", "told\na 3\n",
		"Told a 3\n", "TOLD a 3\n", "tol a 3\n", "toldd a 3\n", "tell a 3\n", "zap a 1\n", "want a 1\n", "want x 1 * 0 0 0 0\n", "1 a 3\n", "* a 3\n", " a 3\n",
		"told a 0\n", "told a -1\n", "told a +1\n", "told a 01\n", "told a 1.0\n", "told a 1e3\n", "told a 0x1\n", "told a 1_0\n", "told a one\n", "told a *\n", "told a 1000001\n", "told a 00\n",
		"told a 1\nwant x 1 v 1 1 1\n", "told a 1\nwant x 1 v 1 1 1 1 1\n", "told a 1\nwant x 1 v 1 1 1 1", "told a 1\nwant x 1 v 1 1 1 1\n\n", "told a 1\n\nwant x 1 v 1 1 1 1\n", "told a 1\nwant x 1  1 1 1 1\n", "told a 1\nwant x 1 1 1 1 1\n",
		"told a 1\nwant  1 v 1 1 1 1\n", "told a 1\n want x 1 v 1 1 1 1\n", "told a 1\nwant x 1 v 1 1 1 1 \n", "told a 1\nwants x 1 v 1 1 1 1\n", "told a 1\nx 1 v 1 1 1 1\n", "told a 1\nhere a 1\n", "told a 1\ntold a 1\n", "told a 1 want x 1 v 1 1 1 1\n",
		"told a 1\nwant x 01 v 1 1 1 1\n", "told a 1\nwant x 1 v 00 1 1 1\n", "told a 1\nwant x 1 v 1 +1 1 1\n", "told a 1\nwant x 1 v 1 1 -1 1\n", "told a 1\nwant x 1 v 1 1 1 101\n", "told a 1\nwant x 0 v 1 1 1 1\n", "told a 1\nwant x 1000001 v 1 1 1 1\n", "told a 1\nwant x 1 v 1 1 1 01\n", "told a 1\nwant x 1 v 1 1 01 1\n",
		"told a 1\nwant y 1 * 0 0 0 0\nwant x 1 * 0 0 0 0\n", "told a 1\nwant x 1 * 0 0 0 0\nwant x 1 * 0 0 0 0\n", "told a 1\nwant x 1 v 0 0 0 0\nwant y 1 v 0 0 0 0\n", "told a 1\nwant x 1 * 0 0 0 0\nhere a 1\n",
		"asked a v x\n", "asked a v\n", "asked a v x 1 2\n", "asked a v x 01\n", "asked a v x -1\n", "asked a v x +1\n", "asked a v x 1000001\n", "asked a * x 1\n", "asked a  x 1\n", "asked  v x 1\n", "asked a v  1\n", "asked a v x \n", "asked a v x 1", "asked a v x 1\n\n", "asked a v x 1\nwant x 1 * 0 0 0 0\n", "asked a v x 1\nasked a v x 1\n", "asked a v x -0\n",
		"given  v x 1\n", "given a v x\n", "given a v 1\n", "given a * x 1\n", "given a v x 1\nwant x 1 * 0 0 0 0\n", "given a v x 00\n",
		"back a v 1\n", "back a v x y 1\n", "back a * x 1\n", "back a v x 1 \n", "back a v x 1\nwant x 1 * 0 0 0 0\n",
		"gotback a v x 1\n", "gotback a v\n", "gotback a 1\n", "gotback a * 1\n", "gotback a v 1\nwant x 1 * 0 0 0 0\n", "gotback a v 01\n", "got back a v 1\n", "gotback a v 1000001\n",
		"here a\n", "here a 0\n\n", "here a 00\n", "here a 1 1\n", "here a -0\n", "here a -1\n", "here a 1000001\n", "here a 1\nwant x 1 * 0 0 0 0\n", "here a 1\nhere a 1\n", "here a 1\nhere b 1\n", "here a v x 1\n", "here  1\n",
		"here \x7f 1\n", "here é 1\n", "here \xff 1\n", "here a\x00 1\n", "here " + strings.Repeat("x", 21) + " 1\n", "asked a " + strings.Repeat("x", 21) + " x 1\n", "asked a v " + strings.Repeat("x", 21) + " 1\n", "gotback a " + strings.Repeat("x", 21) + " 1\n", "here \t 1\n", "here a\tb 1\n",
	} {
		if checkMailRead(t, s) {
			t.Errorf("%q is read", s)
		}
	}
}

// Each beginning of a form is none, but for what is told with fewer wants; nor is a form with anything behind it or ahead of it.
func TestMateReadWhole(t *testing.T) {
	for form := range knownForms() {
		for at := range len(form) {
			if s := form[:at]; checkMailRead(t, s) != strings.HasSuffix(s, "\n") {
				t.Errorf("%q is read, or not", s)
			}
		}
		for _, more := range []string{"\n", " ", "x", "\x00", "want", "want ", "want x", form, "here a 0\n"} {
			if checkMailRead(t, form+more) || checkMailRead(t, more+form) {
				t.Errorf("%q and %q are read", form, more)
			}
		}
	}
}

// Every byte in the place of every byte of a form, without it and ahead of it.
func TestMateReadEachByte(t *testing.T) {
	read := 0
	for _, form := range []string{"told a 10\nwant x 2 v 1 2 3 4\nwant y 1 * 0 0 0 10\n", "asked a v x 10\n", "given a v x 0\n", "back a v x 7\n", "gotback a v 10\n", "here a 0\n"} {
		for at := range len(form) {
			if checkMailRead(t, form[:at]+form[at+1:]) {
				read++
			}
			for b := range 256 {
				one := string([]byte{byte(b)})
				for _, s := range []string{form[:at] + one + form[at+1:], form[:at] + one + form[at:]} {
					if checkMailRead(t, s) {
						read++
					}
				}
			}
		}
	}
	if read < 1000 {
		t.Errorf("the texts tell too little: %d", read)
	}
}

// Numbers that are too great, also for an int, in each place.
func TestMateReadGreatNumbers(t *testing.T) {
	two64 := new(big.Int).Lsh(big.NewInt(1), 64)
	for _, n := range []string{
		"1000001", "9223372036854775807", "9223372036854775808", "-9223372036854775808", "-9223372036854775809", two64.String(), new(big.Int).Add(two64, big.NewInt(1)).String(), new(big.Int).Add(two64, big.NewInt(100)).String(), "4294967297", strings.Repeat("9", 1000), strings.Repeat("0", 1000) + "1",
	} {
		for _, form := range []string{"told a %s\n", "told a 1\nwant x %s v 1 1 1 1\n", "told a 1\nwant x 1 v %s 1 1 1\n", "told a 1\nwant x 1 v 1 %s 1 1\n", "told a 1\nwant x 1 v 1 1 %s 1\n", "told a 1\nwant x 1 v 1 1 1 %s\n", "asked a v x %s\n", "given a v x %s\n", "back a v x %s\n", "gotback a v %s\n", "here a %s\n"} {
			if s := fmt.Sprintf(form, n); checkMailRead(t, s) {
				t.Errorf("%q is read", s)
			}
			if s := fmt.Sprintf(form, "1"); !checkMailRead(t, s) {
				t.Errorf("%q is not read", s)
			}
		}
	}
}

func TestMateMailGreat(t *testing.T) {
	inGoodTime(t, "texts and parcels that are far too long", func() {
		for _, s := range []string{
			"told a 1\n" + strings.Repeat("want x 1 v 0 0 0 0\n", 100000), strings.Repeat("told ", 200000), strings.Repeat("x", 1000000), strings.Repeat("\n", 1000000), "here " + strings.Repeat("x", 1000000) + " 1\n", "here a " + strings.Repeat("1", 1000000) + "\n",
		} {
			if p, ok := impl.MateRead(s); ok || p.Kind != 0 {
				t.Errorf("%.40q is read", s)
			}
		}
		for _, p := range []impl.MateParcel{
			toldTo(1, slices.Repeat(severalWants(), 100000)...), {Kind: impl.MateHere, Berth: strings.Repeat("x", 1000000)}, askedBy("a", "v", strings.Repeat("x ", 1000000), 1),
		} {
			if form := impl.MateForm(p); form != "" {
				t.Errorf("it has the form %.40q", form)
			}
		}
	})
}

func TestMateMailMemory(t *testing.T) {
	for form, p := range knownForms() {
		p.Wants = append(slices.Clone(p.Wants), severalWants()...)[:len(p.Wants)]
		before := slices.Clone(p.Wants[:cap(p.Wants)])
		written := impl.MateForm(p)
		if written != form || !slices.Equal(p.Wants[:cap(p.Wants)], before) {
			t.Errorf("the wants were %+v, and are %+v", before, p.Wants[:cap(p.Wants)])
		}
		first, _ := impl.MateRead(form)
		second, _ := impl.MateRead(form)
		for _, answers := range [][]any{{written}, {first}, {first, second}} {
			checkOwnMemory(t, []any{p, form}, answers)
			checkOwnTexts(t, []any{p, form}, answers)
		}
		clear(second.Wants[:cap(second.Wants)])
		if !slices.Equal(first.Wants, p.Wants) {
			t.Errorf("the wants that are read have changed: %+v", first.Wants)
		}
	}
}

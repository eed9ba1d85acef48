package tests

import (
	"math/rand"
	"strings"
	"testing"

	"loop.example/wharffleet/impl"
)

// Promise 13, of each kind with each name, hold and number that there can be at its limits.
func TestPromise13(t *testing.T) {
	names := append(theirNames(), "*", "a")
	formed := 0
	for kind := 1; kind <= 6; kind++ {
		for _, berth := range names {
			for _, hold := range names {
				for _, n := range []int{0, 1, 9, 10, 99, 100, 999999, 1000000} {
					p := impl.MateParcel{Kind: kind, Berth: berth}
					switch kind {
					case impl.MateTold:
						p.Seen, p.Wants = n, []impl.MateWant{{Copy: berth, Version: max(1, n), Hold: hold, Grace: min(n, 100)}}
					case impl.MateHere:
						p.Seen = n
					case impl.MateGotBack:
						p.Hold, p.At = hold, n
					default:
						p.Hold, p.Copy, p.At = hold, berth, n
					}
					ok := (hold != "*" || kind == impl.MateHere) && (n > 0 || kind != impl.MateTold)
					checkMailForm(t, p, ok)
					if ok {
						formed++
					}
				}
			}
		}
	}
	if formed < 3000 {
		t.Errorf("the parcels tell too little: %d", formed)
	}
}

// Promise 13: no two parcels have one form, and no text is read that is not the form of what it is read as.
func TestPromise13OfMany(t *testing.T) {
	t.Parallel()
	r := rand.New(rand.NewSource(80))
	formed := map[string]impl.MateParcel{}
	read := 0
	for range 30000 {
		p := randomMail(r)
		form := impl.MateForm(p)
		if form != "" {
			if other, there := formed[form]; there && !sameParcels([]impl.MateParcel{other}, []impl.MateParcel{p}) {
				t.Fatalf("%+v and %+v have the form %q", p, other, form)
			}
			formed[form] = p
			got, ok := impl.MateRead(form)
			if !ok || !sameParcels([]impl.MateParcel{got}, []impl.MateParcel{p}) {
				t.Fatalf("%q is read as %+v, %v, not %+v", form, got, ok, p)
			}
		}
		s := spoil(r, spoil(r, form+"a 1\n"))
		if r.Intn(2) == 0 {
			s = spoil(r, form)
		}
		if got, ok := impl.MateRead(s); ok {
			read++
			if impl.MateForm(got) != s {
				t.Fatalf("%q is read as %+v", s, got)
			}
		}
	}
	if len(formed) < 3000 || read < 3000 {
		t.Errorf("the parcels tell too little: %d, %d", len(formed), read)
	}
}

// Promise 13 of texts made of the words that forms are made of, in any order.
func TestPromise13OfWords(t *testing.T) {
	t.Parallel()
	r := rand.New(rand.NewSource(81))
	words := []string{"told", "asked", "given", "back", "gotback", "here", "want", "a", "v", "x", "*", "0", "1", "01", "1000000", "1000001", ""}
	read := 0
	for range 200000 {
		var text strings.Builder
		for range 2 + r.Intn(4) {
			text.WriteString(pickOf(r, words...))
			text.WriteString(pickOf(r, " ", " ", " ", " ", "\n"))
		}
		s := strings.TrimSuffix(text.String(), " ")
		if r.Intn(4) > 0 {
			s = strings.TrimSuffix(s, "\n") + "\n"
		}
		if checkMailRead(t, s) {
			read++
		}
	}
	if read < 1000 {
		t.Errorf("the texts tell too little: %d", read)
	}
}

package tests

import (
	"fmt"
	"slices"
	"strings"
	"testing"

	"loop.example/wharffleet/impl"
)

// fullWorld is ok, and has some of all.
func fullWorld() impl.MateWorld {
	down, last := downMate(), fullMate()
	down.Name, last.Name = "b", "c"
	return impl.MateWorld{
		Land:   fullLand(),
		Mates:  []impl.Mate{fullMate(), down, last},
		Flight: []string{"told a 9\nwant x 1 v 1 1 0 3\n", "nothing", "", "back a disk cache 7\n", "given a h b 50\n"},
	}
}

// worldChange breaks one condition of an ok world alone, the one of that name in the second reading, or none if it is "".
type worldChange struct {
	what, breaks string
	change       func(w *impl.MateWorld)
}

// worldChanges are of a world that is full; what breaks no condition brings one to its limit.
func worldChanges() []worldChange {
	var all []worldChange
	add := func(what, breaks string, change func(w *impl.MateWorld)) {
		all = append(all, worldChange{what, breaks, change})
	}
	for _, c := range landChanges() {
		breaks := map[bool]string{false: "book"}[c.breaks == ""]
		add(c.what, breaks, func(w *impl.MateWorld) { c.change(&w.Land) })
	}
	for at := range 2 {
		of := []string{"the only mate: ", "the last mate: "}[at]
		for _, c := range mateChanges() {
			breaks := map[bool]string{false: "mate"}[c.breaks == ""]
			if at == 1 && c.breaks == "name" || at == 1 && strings.HasPrefix(c.what, "the name") {
				continue // its order is another one, too
			}
			add(of+c.what, breaks, func(w *impl.MateWorld) {
				w.Mates = []impl.Mate{w.Mates[1], w.Mates[2]}[1-at:]
				m := fullMate()
				m.Name = "z"
				c.change(&m)
				w.Mates[len(w.Mates)-1] = m
			})
		}
	}
	for _, c := range downChanges() {
		breaks := map[bool]string{false: "mate"}[c.breaks == ""]
		add("a mate that is down: "+c.what, breaks, func(w *impl.MateWorld) {
			w.Mates = w.Mates[1:2]
			c.change(&w.Mates[0])
		})
	}
	names := func(breaks string, list ...string) {
		add(fmt.Sprintf("mates called %.60q", list), breaks, func(w *impl.MateWorld) {
			w.Mates = nil
			for _, name := range list {
				w.Mates = append(w.Mates, impl.Mate{Name: name, Up: true})
			}
		})
	}
	names("mates")
	names("", "a")
	names("", "a", "aa", "b", "~")
	names("mates", "a", "b", "c", "d", "e")
	names("mates", numbered(500, strings.Clone)...)
	names("mates' order", "b", "a")
	names("mates' order", "a", "a")
	names("mates' order", "aa", "a")
	names("mates' order", "a", "b", "d", "c")
	names("mates' order", "a", "b", "a")
	for _, n := range []int{0, 1, 299, 300, 301, 600} {
		breaks := map[bool]string{false: "flight"}[n <= 300]
		add(fmt.Sprint(n, " texts"), breaks, func(w *impl.MateWorld) { w.Flight = filled(n) })
		add(fmt.Sprint(n, " empty texts"), breaks, func(w *impl.MateWorld) { w.Flight = make([]string, n) })
	}
	add("a long text", "", func(w *impl.MateWorld) { w.Flight = []string{strings.Repeat("\xff", 1<<20)} })
	return all
}

// eachEvent is one of each kind, by which something happens to a world that is full.
func eachEvent() []impl.MateEvent {
	return []impl.MateEvent{
		{Kind: impl.MateEvTick, Rates: []int{1, 4}},
		{Kind: impl.MateEvBring},
		{Kind: impl.MateEvDouble},
		{Kind: impl.MateEvLose},
		{Kind: impl.MateEvFall},
		{Kind: impl.MateEvFall, B: 1},
		{Kind: impl.MateEvRise, A: 1},
		{Kind: impl.MateEvPut, A: 0},
	}
}

// Each condition of an ok world broken alone, in each of the functions that take one.
func TestMateWorldOk(t *testing.T) {
	met := map[string]int{}
	for _, c := range worldChanges() {
		w := fullWorld()
		checkWorldOk(t, "ahead of the change", w, true)
		c.change(&w)
		checkWorldOk(t, c.what, w, c.breaks == "")
		met[c.breaks]++
		if faults := slices.Compact(modelWorldFaults(w)); c.breaks != "" && !slices.Equal(faults, []string{c.breaks}) {
			t.Errorf("%s: it breaks %q, not %q alone", c.what, faults, c.breaks)
		}
		checkAsked(t, w)
		for _, e := range append(eachEvent(), impl.MateEvent{}) {
			if c.breaks == "" {
				checkWorldOk(t, c.what, checkDone(t, w, e, noNote), true)
			} else if next := impl.MateDo(w, e); !sameWorld(next, impl.MateWorld{}) {
				t.Errorf("%s: by %+v it is %+v", c.what, e, next)
			}
		}
		for _, rounds := range []int{-1, 0, 1, 2, 1001} {
			if c.breaks != "" {
				if next := impl.MateCalm(w, rounds, []int{1}); !sameWorld(next, impl.MateWorld{}) {
					t.Errorf("%s: behind %d rounds it is %+v", c.what, rounds, next)
				}
			} else if rounds < 2 {
				checkWorldOk(t, c.what, checkCalm(t, w, rounds, 1), true)
			}
		}
		if c.breaks != "" && (impl.MateSafe(w) || impl.MateSettled(w)) {
			t.Errorf("%s: it is safe or settled", c.what)
		}
	}
	for _, breaks := range []string{"", "book", "mates", "mate", "mates' order", "flight"} {
		if met[breaks] < 3 {
			t.Errorf("the changes tell too little of %q: %v", breaks, met)
		}
	}
}

// Something happens by each event, so that "nothing" says something.
func TestMateWorldEachEvent(t *testing.T) {
	for _, e := range eachEvent() {
		if next := checkDone(t, fullWorld(), e, noNote); sameWorld(next, fullWorld()) {
			t.Errorf("%+v: nothing happens", e)
		}
	}
}

// A world that is not ok is neither safe nor settled, though it would be but for that.
func TestMateWorldNotOkAtRest(t *testing.T) {
	rest := func() impl.MateWorld {
		return impl.MateCalm(impl.MateDo(impl.MateNewWorld([]string{"a", "b"}), impl.MateEvent{Kind: impl.MateEvPut, Wants: []impl.MateWant{quick("x", "v")}}), 9, nil)
	}
	if w := rest(); !impl.MateSafe(w) || !impl.MateSettled(w) {
		t.Fatal(tellWorld(w))
	}
	for what, change := range map[string]func(w *impl.MateWorld){
		"an odd time":        func(w *impl.MateWorld) { w.Land.Time++ },
		"a clock below 0":    func(w *impl.MateWorld) { w.Mates[1].Clock = -1 },
		"a seen that is not": func(w *impl.MateWorld) { w.Mates[0].Seen = -1 },
		"a name twice":       func(w *impl.MateWorld) { w.Mates[1].Name = "a" },
		"too many texts":     func(w *impl.MateWorld) { w.Flight = filled(301) },
		"too many mates": func(w *impl.MateWorld) {
			for _, name := range []string{"c", "d", "e"} {
				w.Mates = append(w.Mates, impl.Mate{Name: name, Up: true})
			}
		},
	} {
		w := rest()
		change(&w)
		checkWorldOk(t, what, w, false)
		checkAsked(t, w)
		if impl.MateSafe(w) || impl.MateSettled(w) || !sameWorld(impl.MateDo(w, impl.MateEvent{Kind: impl.MateEvTick}), impl.MateWorld{}) || !sameWorld(impl.MateCalm(w, 1, nil), impl.MateWorld{}) {
			t.Errorf("%s: %+v", what, w)
		}
	}
}

func TestMateWorldInGoodTime(t *testing.T) {
	inGoodTime(t, "lists that are far too long", func() {
		w := fullWorld()
		w.Flight = filled(1 << 20)
		checkWorldOk(t, "far too many texts", w, false)
		w = fullWorld()
		w.Mates = slices.Repeat(w.Mates[:1], 100000)
		if impl.MateWorldOk(w) || impl.MateSafe(w) || impl.MateSettled(w) || len(impl.MateDo(w, impl.MateEvent{Kind: impl.MateEvTick}).Mates) != 0 || len(impl.MateCalm(w, 1000, nil).Mates) != 0 {
			t.Error("far too many mates")
		}
		w = fullWorld()
		next := impl.MateDo(w, impl.MateEvent{Kind: impl.MateEvTick, Rates: slices.Repeat([]int{1}, 1<<20)})
		if next.Mates[2].Clock != 51 {
			t.Error(tellWorld(next))
		}
		w = impl.MateDo(w, impl.MateEvent{Kind: impl.MateEvPut, Wants: slices.Repeat(severalWants(), 100000)})
		if !sameWorld(w, fullWorld()) {
			t.Error(tellWorld(w))
		}
	})
}

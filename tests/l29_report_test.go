package tests

import (
	"fmt"
	"math"
	"math/rand"
	"slices"
	"strings"
	"testing"

	"loop.example/wharffleet/impl"
)

// webAt is a fleet with the berths a, b and c, and copies of web; what is on a place is told by withPlace.
func webAt(copies string) impl.FleetWorld { return withService(threeBerths(), webKind(), copies) }

func TestFleetReportOfNone(t *testing.T) {
	none := func(what string, m impl.Mate) {
		t.Helper()
		if got := checkReportOf(t, what, m); !sameReport(got, impl.FleetReport{}) {
			t.Errorf("%s: %+v", what, got)
		}
	}
	none("nothing", impl.Mate{})
	met := map[bool]int{}
	for _, c := range mateChanges() {
		m := fullMate()
		c.change(&m)
		if c.breaks != "" {
			none(c.what, m)
		}
		if c.breaks == "" && checkReportOf(t, c.what, m).Berth != m.Name {
			t.Errorf("%s: there is no report", c.what)
		}
		met[c.breaks == ""]++
	}
	for _, c := range downChanges() {
		m := downMate()
		c.change(&m)
		none("down, "+c.what, m)
	}
	none("down", impl.Mate{Name: "a"})
	none("fallen", impl.MateFall(fullMate(), false))
	none("fallen with its machine", impl.MateFall(fullMate(), true))
	if met[true] < 20 || met[false] < 20 {
		t.Errorf("the mates tell too little: %v", met)
	}
}

func TestFleetReportOfSeen(t *testing.T) {
	for _, seen := range []int{0, 1, 2, 999999, 1000000} {
		for _, runs := range [][]impl.MateRun{nil, severalRuns()} {
			for _, known := range []bool{false, true} {
				m := impl.Mate{Name: "here", Up: true, Clock: 50, Known: known, Seen: seen, Runs: runs}
				got := checkReportOf(t, "seen", m)
				if want := map[bool]int{true: seen}[known]; got.Seen != want || got.Berth != "here" || len(got.Runs) != len(runs) {
					t.Errorf("%+v of %+v", got, m)
				}
			}
		}
	}
	// A mate that has fallen and come up again knows nothing, and tells what runs all the same.
	m := impl.MateRise(impl.MateFall(fullMate(), false))
	if got := checkReportOf(t, "up again", m); got.Seen != 0 || got.Berth != "a" || len(got.Runs) == 0 || len(got.Runs) != len(m.Runs) {
		t.Errorf("%+v of %+v", got, m)
	}
	// A mate's name need not be one of chapter 1: then its report is not ok, and is told all the same.
	for _, name := range []string{"!", "~A", "*", strings.Repeat("~", 20)} {
		if got := checkReportOf(t, "a name", impl.Mate{Name: name, Up: true}); got.Berth != name {
			t.Errorf("%q: %+v", name, got)
		}
	}
}

func TestFleetReportOfRuns(t *testing.T) {
	for state := 1; state <= 6; state++ {
		for _, hold := range []string{"", "h"} {
			run := impl.MateRun{Want: impl.MateWant{Copy: "c", Version: 77, Hold: hold, Pull: 1, Start: 2, Dies: 3, Grace: 4}, State: state, Falls: 5}
			if hold != "" {
				run.Until = 60
			}
			if state != impl.MateWaiting {
				run.Left = 6
			}
			m := impl.Mate{Name: "a", Up: true, Clock: 50, Known: true, Seen: 8, Runs: []impl.MateRun{run}}
			want := impl.FleetReport{Berth: "a", Seen: 8, Runs: []impl.FleetRan{{Copy: "c", Version: 77, State: state}}}
			if got := checkReportOf(t, "a run", m); !sameReport(got, want) {
				t.Errorf("%+v, not %+v", got, want)
			}
		}
	}
	for _, n := range []int{0, 1, 2, 19, 20} {
		m := impl.Mate{Name: "a", Up: true, Runs: numbered(n, func(name string) impl.MateRun {
			return impl.MateRun{Want: impl.MateWant{Copy: name, Version: 1000000}, State: impl.MateReady}
		})}
		got := checkReportOf(t, "runs", m)
		if len(got.Runs) != n || len(modelFaultsOfReport(got)) > 0 {
			t.Errorf("%d: %+v", n, got)
		}
	}
	got := checkReportOf(t, "a great one", greatMate())
	if len(got.Runs) != 20 || got.Seen != 1000000 || got.Runs[19] != ranOf(greatMate().Runs[19].Want.Copy, 1000000, impl.MateReady) {
		t.Errorf("%+v", got)
	}
	r := rand.New(rand.NewSource(291))
	told := map[string]int{}
	for range 3000 {
		m := randomMate(r)
		m.Runs = m.Runs[:min(len(m.Runs), pickOf(r, 0, 1, 20, 20))]
		if r.Intn(5) == 0 {
			m.Seen, m.Clock = pickOf(r, -1, 1000001, 0, 7), pickOf(r, -1, 50, 1000000, math.MaxInt)
		}
		got := checkReportOf(t, "a random one", m)
		told[fmt.Sprint(got.Berth != "", " ", min(2, len(got.Runs)))]++
	}
	if told["true 0"] < 100 || told["true 1"] < 100 || told["true 2"] < 300 || told["false 0"] < 100 {
		t.Errorf("the mates tell too little: %v", told)
	}
}

// checkFleetHear holds what the copies are behind a report of a berth of this fleet, at which version, and that nothing has changed but them and when this berth was heard of.
func checkFleetHear(t *testing.T, what string, w impl.FleetWorld, r impl.FleetReport, now int, want string) impl.FleetWorld {
	t.Helper()
	if faults := append(modelWharfFaults(w), modelFaultsOfReport(r)...); len(faults) > 0 {
		t.Errorf("%s: the case is none, %q: %+v", what, faults, r)
	}
	next := checkHeard(t, what, w, r, noNote)
	if got := copiesIn(next); got != want || next.Stew.Now != now {
		t.Errorf("%s: %q at %d, not %q at %d", what, got, next.Stew.Now, want, now)
	}
	heard := slices.Clone(w.Heard)
	for i := range heard {
		if heard[i].Berth == r.Berth {
			heard[i].Time = w.Mates.Land.Time
		}
	}
	if !slices.Equal(next.Heard, heard) {
		t.Errorf("%s: heard is %+v, not %+v", what, next.Heard, heard)
	}
	rest := next
	rest.Stew.Now, rest.Stew.Copies, rest.Heard = w.Stew.Now, w.Stew.Copies, w.Heard
	if !sameWharf(rest, w) {
		t.Errorf("%s: something else has changed: %+v, and was %+v", what, next, w)
	}
	return next
}

// checkFleetHearsNot holds that a report changes nothing at all.
func checkFleetHearsNot(t *testing.T, what string, w impl.FleetWorld, r impl.FleetReport) {
	t.Helper()
	if next := checkHeard(t, what, w, r, noNote); !sameWharf(next, w) {
		t.Errorf("%s: %+v is heard: %+v, and was %+v", what, r, next, w)
	}
}

// Each part of a report alone makes it one that is not ok; as it is it changes a state, takes out a copy, and is heard at another time.
func TestFleetHearNotOk(t *testing.T) {
	w := webAt("1@a 2e@a 3@b")
	w.Mates.Land.Time = 20
	good := func() impl.FleetReport { return reportOf("a", 4, "web-1/2/4 x/5/6") }
	checkFleetHear(t, "as it is", w, good(), 6, "web-1@a/2/v6 web-3@b/3/v1")
	checkFleetHearsNot(t, "in another order", w, reportOf("a", 4, "x/5/6 web-1/2/4"))
	type change = func(r *impl.FleetReport)
	so := func(n int) []impl.FleetRan {
		return numbered(n, func(name string) impl.FleetRan { return ranOf(name, 1, 4) })
	}
	changes := map[string]change{
		"nothing":       func(r *impl.FleetReport) { *r = impl.FleetReport{} },
		"a copy twice":  func(r *impl.FleetReport) { r.Runs[1].Copy = "web-1" },
		"one run more":  func(r *impl.FleetReport) { r.Runs = so(21) },
		"5000 runs":     func(r *impl.FleetReport) { r.Runs = so(5000) },
		"far more runs": func(r *impl.FleetReport) { r.Runs = slices.Repeat(r.Runs, 300000) },
	}
	for _, n := range []int{math.MinInt, -1, 1000001, math.MaxInt} {
		changes[fmt.Sprint("seen ", n)] = func(r *impl.FleetReport) { r.Seen = n }
	}
	for at := range 2 {
		for _, n := range []int{math.MinInt, -1, 0, 1000001, math.MaxInt} {
			changes[fmt.Sprint("version ", n, " of ", at)] = func(r *impl.FleetReport) { r.Runs[at].Version = n }
		}
		for _, n := range []int{math.MinInt, -1, 0, 7, math.MaxInt} {
			changes[fmt.Sprint("state ", n, " of ", at)] = func(r *impl.FleetReport) { r.Runs[at].State = n }
		}
	}
	for _, name := range notNames() {
		changes[fmt.Sprintf("copy %.30q", name)] = func(r *impl.FleetReport) { r.Runs = []impl.FleetRan{ranOf(name, 3, 4)} }
	}
	for _, name := range []string{"", "A", "a b", "a=b", "~", "\xff", strings.Repeat("a", 21)} {
		changes[fmt.Sprintf("berth %q", name)] = func(r *impl.FleetReport) { r.Berth = name }
	}
	for what, change := range changes {
		r := good()
		change(&r)
		if len(r.Runs) < 100000 {
			checkFleetHearsNot(t, what, w, r)
		} else if !sameWharf(impl.FleetHear(w, r), w) {
			t.Errorf("%s: it is heard", what)
		}
	}
	// At its limits it is heard.
	for _, seen := range []int{0, 1000000} {
		checkFleetHear(t, "seen", w, reportOf("a", seen, "web-1/1000000/1 web-3/1/6"), 6, "web-1@a/2/v6 web-3@b/3/v1")
	}
	checkFleetHear(t, "as many runs as may be", w, impl.FleetReport{Berth: "a", Runs: so(20)}, 6, "web-1@a/2/v6 web-3@b/3/v1")
}

func TestFleetHearOfAnotherBerth(t *testing.T) {
	w := webAt("1@a 2e@a 3@b 4")
	w.Mates.Land.Time = 20
	for _, name := range []string{"d", "aa", "0", "-", "a-", "x_y", "web", "web-1", "zone", strings.Repeat("z", 20)} {
		checkFleetHearsNot(t, "another berth", w, reportOf(name, 4, ""))
		checkFleetHearsNot(t, "another berth, with runs", w, reportOf(name, 0, "web-1/3/4 web-4/3/4"))
	}
	// Of each berth that is there it is heard, the first and the last.
	checkFleetHear(t, "the first", w, reportOf("a", 0, ""), 6, "web-1@a/2/v6 web-3@b/3/v1 web-4/1/v1")
	checkFleetHear(t, "another one", w, reportOf("b", 0, ""), 6, "web-1@a/3/v1 web-2e@a/3/v1 web-3@b/2/v6 web-4/1/v1")
	checkFleetHear(t, "the last", w, reportOf("c", 0, ""), 5, "web-1@a/3/v1 web-2e@a/3/v1 web-3@b/3/v1 web-4/1/v1")
}

// What is heard is when a report came last, whatever it says, and whether or not the berth was silent.
func TestFleetHearTime(t *testing.T) {
	for _, now := range []int{5, 999999, 1000000} {
		for _, time := range []int{0, 2, 40, 42, 1000, 1999998, 2000000} {
			for _, was := range []int{0, 1, time / 2, time - 42, time - 41, time - 40, time - 1, time} {
				for at, berth := range []string{"a", "b", "c"} {
					w := webAt("1@a 2@b")
					w.Stew.Now, w.Mates.Land.Time = now, time
					if was < 0 || was > time {
						continue
					}
					w.Heard[at].Time = was
					next := checkFleetHear(t, fmt.Sprintf("at %d, heard at %d", time, was), w, reportOf(berth, 0, "web-1/3/4 web-2/3/4"), now, "web-1@a/3/v1 web-2@b/3/v1")
					if next.Heard[at] != (impl.FleetHeard{Berth: berth, Time: time}) {
						t.Errorf("%+v", next.Heard)
					}
				}
			}
		}
	}
}

// At the end of versions a report is heard, and changes no copy; just ahead of it, it does, for the last time.
func TestFleetHearAtTheEndOfVersions(t *testing.T) {
	for now, want := range map[int]string{
		999998:  "web-1@a/2/v999999",
		999999:  "web-1@a/2/v1000000",
		1000000: "web-1@a/3/v1 web-2e@a/3/v1",
	} {
		w := webAt("1@a 2e@a")
		w.Stew.Now, w.Mates.Land.Time = now, 50
		next := checkFleetHear(t, fmt.Sprint("now ", now), w, reportOf("a", 0, ""), min(now+1, 1000000), want)
		if next.Heard[0].Time != 50 {
			t.Errorf("%+v", next.Heard)
		}
		if now == 999999 {
			checkFleetHear(t, "behind the last", next, reportOf("a", 0, "web-1/3/4"), 1000000, want)
		}
	}
}

// A copy that is not Ending is ready exactly if its own run is, in its own version.
func TestFleetHearStates(t *testing.T) {
	for _, was := range []int{impl.StewStarting, impl.StewReady, impl.StewFailed} {
		check := func(what, runs string, is int) {
			t.Helper()
			for _, seen := range []int{0, 7, 8, 1000000} {
				w := withPlace(webAt("1@b:0 2"), "b", 7, webWant(1, 0))
				w.Stew.Copies[0].State = was
				now, want := 6, fmt.Sprintf("web-1@b/%d/v6 web-2/1/v1", is)
				if was == is {
					now, want = 5, fmt.Sprintf("web-1@b/%d/v1 web-2/1/v1", is)
				}
				checkFleetHear(t, fmt.Sprint(what, " from ", was), w, reportOf("b", seen, runs), now, want)
			}
		}
		check("no run", "", impl.StewStarting)
		for state := 1; state <= 6; state++ {
			is := impl.StewStarting
			if state == impl.MateReady {
				is = impl.StewReady
			}
			check(fmt.Sprint("a run in ", state), fmt.Sprintf("web-1/3/%d", state), is)
			for _, version := range []int{1, 2, 4, 33, 1000000} {
				check(fmt.Sprint("another version in ", state), fmt.Sprintf("web-1/%d/%d", version, state), impl.StewStarting)
			}
		}
		check("runs of others", "w/3/4 we/3/4 web-/3/4 web-10/3/4 web-11/3/4 web-2/3/4 xweb-1/3/4", impl.StewStarting)
		check("runs of others, too", "we/3/1 web/3/2 web-/3/3 web-1/3/4 web-10/3/5 web-2/3/6", impl.StewReady)
		check("names that are alike", "web--1/3/4 web-01/3/4 web-1-/3/4 web1/3/4", impl.StewStarting)
	}
	// The greatest image.
	w := webAt("1@a")
	w.Stew.Copies[0].Image, w.Stew.Copies[0].State = 1000000, impl.StewStarting
	checkFleetHear(t, "the greatest image", w, reportOf("a", 0, "web-1/1000000/4"), 6, "web-1@a/3/v6")
	// The image of the copy counts, not that of its service.
	w.Stew.Copies[0].Image = 2
	checkFleetHear(t, "an old image", w, reportOf("a", 0, "web-1/2/4"), 6, "web-1@a/3/v6")
	checkFleetHear(t, "the service's image", w, reportOf("a", 0, "web-1/3/4"), 5, "web-1@a/2/v1")
}

// A copy that is Ending is gone, if the report has no run of it, its place does not want it, and the berth has heard what its place says.
func TestFleetHearGone(t *testing.T) {
	for _, state := range []int{impl.StewStarting, impl.StewReady, impl.StewFailed} {
		check := func(what string, w impl.FleetWorld, seen int, runs string, gone bool) {
			t.Helper()
			w.Stew.Copies[0].State = state
			now, want := 5, fmt.Sprintf("web-1e@b/%d/v1 web-2@c/3/v1", state)
			if gone {
				now, want = 6, "web-2@c/3/v1"
			}
			checkFleetHear(t, what, w, reportOf("b", seen, runs), now, want)
		}
		web := func() impl.FleetWorld { return webAt("1e@b 2@c:1") }
		for _, place := range []int{1, 2, 7, 999999, 1000000} {
			told := withPlace(web(), "b", place)
			for _, seen := range []int{0, place - 1, place, place + 1, 1000000} {
				if seen > 1000000 {
					continue
				}
				what := fmt.Sprintf("seen %d of %d", seen, place)
				check(what, told, seen, "", seen >= place)
				check(what+", wanted", withPlace(web(), "b", place, webWant(1, 0)), seen, "", false)
				check(what+", another one wanted", withPlace(web(), "b", place, webWant(10, 0), webWant(11, 2)), seen, "", seen >= place)
				for run := 1; run <= 6; run++ {
					check(what+", with a run", told, seen, fmt.Sprintf("web-1/3/%d", run), false)
					check(what+", with a run of another version", told, seen, fmt.Sprintf("web-1/9/%d", run), false)
				}
				check(what+", others run", told, seen, "web-/3/4 web-10/3/4 web-2/3/4", seen >= place)
			}
		}
		for _, seen := range []int{0, 1, 1000000} {
			check("no place", web(), seen, "", true)
			check("no place, and a run", web(), seen, "web-1/3/6", false)
			check("other places alone", withPlace(withPlace(web(), "a", 9, webWant(1, 0)), "c", 1000000, webWant(2, 1)), seen, "", true)
		}
		// What is wanted so, in whatever way, is wanted.
		other := webWant(1, 0)
		other.Version, other.Hold = 99, ""
		check("wanted otherwise", withPlace(web(), "b", 7, other), 7, "", false)
	}
}

// The tale of a copy that goes: it is Ending, then its place is told, then its berth has heard that, then it has stopped.
func TestFleetHearTale(t *testing.T) {
	w := withPlace(webAt("1e@a 2@a:1"), "a", 7, webWant(1, 0), webWant(2, 1))
	ready := "web-1e@a/3/v1 web-2@a/3/v1"
	checkFleetHear(t, "not told", w, reportOf("a", 7, "web-2/3/4"), 5, ready)
	checkFleetHear(t, "not told, and the berth is ahead", w, reportOf("a", 8, "web-2/3/4"), 5, ready)
	w = impl.FleetTell(w)
	checkFleetHear(t, "told, and not heard", w, reportOf("a", 7, "web-2/3/4"), 5, ready)
	checkFleetHear(t, "the mate has come up again", w, reportOf("a", 0, "web-2/3/4"), 5, ready)
	checkFleetHear(t, "heard, and it stops", w, reportOf("a", 8, "web-1/3/6 web-2/3/4"), 5, ready)
	next := checkFleetHear(t, "it has stopped", w, reportOf("a", 8, "web-2/3/4"), 6, "web-2@a/3/v1")
	checkFleetHear(t, "an older report behind it", next, reportOf("a", 7, "web-1/3/4 web-2/3/4"), 6, "web-2@a/3/v1")
}

// Copies of several services, on this berth and others, change at once: that is one change, and has the version of those alone whose State changes.
func TestFleetHearSeveral(t *testing.T) {
	w := withService(emptyWharf("a", "b", "c"), impl.FleetKind{Service: "db"}, "1@a 2@b 3e@a 4e@b 5e 6")
	w = withService(w, impl.FleetKind{Service: "db-1"}, "1@a 2e@a 3@a")
	w = withService(w, webKind(), "1@b 2@a 9@a 10@a 11e@a 12@c")
	w.Mates.Land.Time = 4
	set := func(state int, at ...int) {
		for _, i := range at {
			w.Stew.Copies[i].State = state
		}
	}
	set(impl.StewStarting, 1, 8, 10)
	set(impl.StewFailed, 0, 9, 11)
	all := reportOf("a", 3, "db-1/3/4 db-1-3/3/4 web-10/3/4 web-11/3/4 web-2/3/4 web-9/3/5")
	before := "db-1@a/4/v1 db-2@b/2/v1 db-3e@a/3/v1 db-4e@b/3/v1 db-5e/1/v1 db-6/1/v1 db-1-1@a/3/v1 db-1-2e@a/3/v1 db-1-3@a/2/v1 web-1@b/4/v1 web-2@a/2/v1 web-9@a/4/v1 web-10@a/3/v1 web-11e@a/3/v1 web-12@c/3/v1"
	if got := copiesIn(w); got != before {
		t.Fatal(got)
	}
	next := checkFleetHear(t, "several", w, all, 6, "db-1@a/3/v6 db-2@b/2/v1 db-4e@b/3/v1 db-5e/1/v1 db-6/1/v1 db-1-1@a/2/v6 db-1-3@a/3/v6 web-1@b/4/v1 web-2@a/3/v6 web-9@a/2/v6 web-10@a/3/v1 web-11e@a/3/v1 web-12@c/3/v1")
	checkFleetHear(t, "nothing more", next, all, 6, copiesIn(next))
	// One that is gone is a change, too, in which no copy gets its version.
	last := reportOf("a", 3, "db-1/3/4 db-1-3/3/4 web-10/3/4 web-2/3/4 web-9/3/5")
	next = checkFleetHear(t, "one is gone", next, last, 7, strings.Replace(copiesIn(next), "web-11e@a/3/v1 ", "", 1))
	// What runs elsewhere by a report is not asked: copies on other berths, and those that wait, stay as they are.
	checkFleetHear(t, "of other berths", next, reportOf("c", 3, "db-2/3/4 db-6/3/4 web-1/3/4 web-12/3/4"), 7, copiesIn(next))
	// Services keep their versions.
	if !slices.Equal(next.Stew.Services, w.Stew.Services) {
		t.Errorf("%+v", next.Stew.Services)
	}
}

func TestFleetHearNothing(t *testing.T) {
	w := webAt("")
	w.Mates.Land.Time = 6
	checkFleetHear(t, "no copies", w, reportOf("b", 0, "web-1/3/4"), 5, "")
	checkFleetHear(t, "no services", threeBerths(), reportOf("b", 0, "web-1/3/4"), 5, "")
	checkFleetHear(t, "as it was", webAt("1@b 2e@b 3"), reportOf("b", 0, "web-1/3/4 web-2/3/1"), 5, "web-1@b/3/v1 web-2e@b/3/v1 web-3/1/v1")
	// A fleet without any change yet has no copies.
	w = threeBerths()
	w.Stew.Now = 0
	checkFleetHear(t, "nothing has changed yet", w, reportOf("a", 0, ""), 0, "")
}

// Slots are of copies that are placed: a report takes none of these out, nor a kind, also not that of a service that is Gone with its last copy gone.
func TestFleetHearSlotsAndKinds(t *testing.T) {
	w := webAt("1e@a 2@a:5 3@b:0 4e@b")
	w = withService(w, impl.FleetKind{Service: "xeb", Rank: 4, Volume: true}, "1e@a")
	w.Stew.Services[1].Gone = true
	next := checkFleetHear(t, "the last of a service", w, reportOf("a", 0, ""), 6, "web-2@a/2/v6 web-3@b/3/v1 web-4e@b/3/v1")
	if !slices.Equal(next.Slots, []impl.FleetSlot{slotOf("web", 2, 5), slotOf("web", 3, 0)}) || len(next.Kinds) != 2 || len(next.Stew.Services) != 2 {
		t.Errorf("%+v, %+v", next.Slots, next.Kinds)
	}
	// Then a steward takes the service out, and its kind with it.
	next = impl.FleetDo(next, impl.FleetEvent{Kind: impl.FleetStewards, A: impl.StewSweeper})
	if len(next.Kinds) != 1 || next.Kinds[0] != webKind() {
		t.Errorf("%+v", next.Kinds)
	}
}

// checkFleetSweep holds what is left behind a sweep, at which version, and that nothing has changed but copies and slots.
func checkFleetSweep(t *testing.T, what string, w impl.FleetWorld, now int, want, slots string) impl.FleetWorld {
	t.Helper()
	if faults := modelWharfFaults(w); len(faults) > 0 {
		t.Errorf("%s: the case is none: %q", what, faults)
	}
	next := checkSwept(t, what, w, noNote)
	if got := copiesIn(next); got != want || next.Stew.Now != now {
		t.Errorf("%s: %q at %d, not %q at %d", what, got, next.Stew.Now, want, now)
	}
	var has []string
	for _, s := range next.Slots {
		has = append(has, fmt.Sprintf("%s-%d:%d", s.Service, s.Number, s.Slot))
	}
	if got := strings.Join(has, " "); got != slots {
		t.Errorf("%s: the slots are %q, not %q", what, got, slots)
	}
	rest := next
	rest.Stew.Now, rest.Stew.Copies, rest.Slots = w.Stew.Now, w.Stew.Copies, w.Slots
	if !sameWharf(rest, w) {
		t.Errorf("%s: something else has changed: %+v, and was %+v", what, next, w)
	}
	if again := checkSwept(t, what, next, noNote); !sameWharf(again, next) {
		t.Errorf("%s: a second sweep finds something: %s", what, copiesIn(again))
	}
	return next
}

// silentSince is a fleet at this Time, whose berths were heard of at these.
func silentSince(w impl.FleetWorld, time int, heard ...int) impl.FleetWorld {
	w = plainWharf(w)
	w.Mates.Land.Time = time
	for i := range w.Heard {
		w.Heard[i].Time = heard[i]
	}
	return w
}

func TestFleetSweepSilent(t *testing.T) {
	all := "web-1@a/3/v1 web-2e@b/3/v1 web-3@b/3/v1 web-4@c/3/v1 web-5/1/v1"
	web := func(time int, heard ...int) impl.FleetWorld {
		return silentSince(webAt("1@a:0 2e@b 3@b:1 4@c:2 5"), time, heard...)
	}
	checkFleetSweep(t, "none is silent", web(0, 0, 0, 0), 5, all, "web-1:0 web-3:1 web-4:2")
	checkFleetSweep(t, "all just at the patience", web(100, 60, 60, 60), 5, all, "web-1:0 web-3:1 web-4:2")
	checkFleetSweep(t, "one more", web(100, 60, 59, 60), 6, "web-1@a/3/v1 web-4@c/3/v1 web-5/1/v1", "web-1:0 web-4:2")
	checkFleetSweep(t, "the first", web(100, 59, 60, 100), 6, "web-2e@b/3/v1 web-3@b/3/v1 web-4@c/3/v1 web-5/1/v1", "web-3:1 web-4:2")
	checkFleetSweep(t, "the last", web(100, 100, 99, 0), 6, "web-1@a/3/v1 web-2e@b/3/v1 web-3@b/3/v1 web-5/1/v1", "web-1:0 web-3:1")
	checkFleetSweep(t, "two", web(100, 0, 60, 59), 6, "web-2e@b/3/v1 web-3@b/3/v1 web-5/1/v1", "web-3:1")
	checkFleetSweep(t, "all", web(42, 0, 1, 1), 6, "web-5/1/v1", "")
	checkFleetSweep(t, "at the end of time", web(2000000, 0, 1999960, 1999959), 6, "web-2e@b/3/v1 web-3@b/3/v1 web-5/1/v1", "web-3:1")
	for time := 0; time <= 90; time += 2 {
		for heard := 0; heard <= time; heard++ {
			w := silentSince(webAt("1@b:0"), time, time, heard, time)
			if time-heard > 40 {
				checkFleetSweep(t, fmt.Sprintf("at %d, heard at %d", time, heard), w, 6, "", "")
			} else {
				checkFleetSweep(t, fmt.Sprintf("at %d, heard at %d", time, heard), w, 5, "web-1@b/3/v1", "web-1:0")
			}
		}
	}
	// To be drained is not silent.
	w := web(40, 0, 0, 0)
	w.Stew.Berths[1].Drain = true
	checkFleetSweep(t, "to be drained", w, 5, all, "web-1:0 web-3:1 web-4:2")
}

func TestFleetSweepStates(t *testing.T) {
	for _, state := range []int{impl.StewStarting, impl.StewReady, impl.StewFailed} {
		for _, ending := range []string{"", "e"} {
			w := silentSince(webAt("1"+ending+"@a 2"+ending+"@b 3"), 100, 59, 60, 100)
			w.Stew.Copies[0].State, w.Stew.Copies[1].State = state, state
			slot := map[string]string{"": "web-2:2"}[ending]
			checkFleetSweep(t, fmt.Sprint("state ", state, ending), w, 6, fmt.Sprintf("web-2%s@b/%d/v1 web-3/1/v1", ending, state), slot)
		}
	}
}

// What is Ending without a berth goes, whatever is silent; what waits does not.
func TestFleetSweepWithoutABerth(t *testing.T) {
	checkFleetSweep(t, "one that waits", webAt("1"), 5, "web-1/1/v1", "")
	checkFleetSweep(t, "one that is Ending", webAt("1e"), 6, "", "")
	checkFleetSweep(t, "both", webAt("1 2e 3 4e"), 6, "web-1/1/v1 web-3/1/v1", "")
	checkFleetSweep(t, "one that is Ending on a berth", webAt("1e@a 2e"), 6, "web-1e@a/3/v1", "")
	checkFleetSweep(t, "all silent", silentSince(webAt("1 2e 3e@a 4@c"), 42, 0, 0, 0), 6, "web-1/1/v1", "")
	w := withService(webAt("1e 2@b:7"), impl.FleetKind{Service: "xeb"}, "1@a:7 2e 3@c:0")
	checkFleetSweep(t, "of several services", silentSince(w, 100, 0, 60, 60), 6, "web-2@b/3/v1 xeb-3@c/3/v1", "web-2:7 xeb-3:0")
}

func TestFleetSweepAtTheEndOfVersions(t *testing.T) {
	for now, want := range map[int]string{
		999998:  "web-3@b/3/v1",
		999999:  "web-3@b/3/v1",
		1000000: "web-1@a/3/v1 web-2e/1/v1 web-3@b/3/v1",
	} {
		w := silentSince(webAt("1@a 2e 3@b"), 42, 0, 42, 42)
		w.Stew.Now = now
		checkFleetSweep(t, fmt.Sprint("now ", now), w, min(now+1, 1000000), want, map[bool]string{true: "web-1:1 web-3:3", false: "web-3:3"}[now == 1000000])
	}
	// Nothing to give up is no change, whatever Now is.
	for _, now := range []int{0, 1, 999999, 1000000} {
		w := silentSince(threeBerths(), 1000, 0, 0, 0)
		w.Stew.Now = now
		checkFleetSweep(t, fmt.Sprint("nothing at ", now), w, now, "", "")
	}
}

// Kinds stay with their services, also where all copies are given up.
func TestFleetSweepKinds(t *testing.T) {
	w := withService(webAt("1@a"), impl.FleetKind{Service: "xeb", Rank: 4}, "1@b 2e")
	w.Stew.Services[1].Gone = true
	next := checkFleetSweep(t, "all", silentSince(w, 42, 0, 0, 0), 6, "", "")
	if !slices.Equal(next.Kinds, w.Kinds) || !slices.Equal(next.Stew.Services, w.Stew.Services) {
		t.Errorf("%+v", next)
	}
	// What is given up may be placed anew, with its slot given to another copy; and a berth that is heard of anew has nothing to do with it.
	next = impl.FleetDo(next, impl.FleetEvent{Kind: impl.FleetStewards, A: impl.StewCounter})
	next = checkHeard(t, "heard of anew", next, reportOf("b", 0, "web-1/3/4"), noNote)
	next = impl.FleetPlace(next)
	if got := placedIn(next); got != "web-2@b:0/2/v8 web-3@b:1/2/v8 web-4@b:2/2/v8" {
		t.Error(got)
	}
}

// The fleet that has some of all, told word by word.
func TestFleetHearAndSweepFull(t *testing.T) {
	w := fullWharf()
	before := "db-1@a/3/v1 db-3e@a/3/v30 db-5/1/v8 db-9@b/2/v8 db-10@c/4/v8 old-2e/1/v3 old-3e@b/4/v4 web-long-1@a/3/v5 web-long-9/1/v6 web-long-10/1/v6 web-long-28@c/3/v6"
	if got := copiesIn(w); got != before {
		t.Fatal(got)
	}
	// a's place wants db-3 yet; web-long-1 is pulled.
	checkFleetHear(t, "what is under way of a", w, w.Reports[0], 31, strings.Replace(before, "web-long-1@a/3/v5", "web-long-1@a/2/v31", 1))
	// b's place is told 7 times, and wants nothing of old.
	checkFleetHear(t, "b is late", w, reportOf("b", 6, "db-9/6/4"), 31, strings.Replace(before, "db-9@b/2/v8", "db-9@b/3/v31", 1))
	checkFleetHear(t, "b", w, reportOf("b", 7, "db-9/6/4"), 31, strings.Replace(strings.Replace(before, "db-9@b/2/v8", "db-9@b/3/v31", 1), "old-3e@b/4/v4 ", "", 1))
	checkFleetHear(t, "c", w, reportOf("c", 0, "web-long-28/4/4"), 31, strings.Replace(before, "db-10@c/4/v8", "db-10@c/2/v31", 1))
	checkFleetHearsNot(t, "of another fleet", w, w.Reports[2])
	// b was never heard of; c just often enough.
	checkFleetSweep(t, "a sweep", w, 31, "db-1@a/3/v1 db-3e@a/3/v30 db-5/1/v8 db-10@c/4/v8 web-long-1@a/3/v5 web-long-9/1/v6 web-long-10/1/v6 web-long-28@c/3/v6", "db-1:0 db-10:99 web-long-1:1 web-long-28:0")
}

// A fleet that is not valid hears nothing and gives up nothing, whatever is wrong with it.
func TestFleetHearAndSweepOfNone(t *testing.T) {
	for what, w := range brokenWharves() {
		for _, r := range append(fullWharf().Reports, impl.FleetReport{}, reportOf("b", 7, ""), reportOf("a", -1, "")) {
			if next := checkHeard(t, what, w, r, noNote); !sameWharf(next, impl.FleetWorld{}) {
				t.Errorf("%s: %+v", what, next)
			}
		}
		if next := checkSwept(t, what, w, noNote); !sameWharf(next, impl.FleetWorld{}) {
			t.Errorf("%s: %+v", what, next)
		}
	}
	if !sameWharf(impl.FleetHear(impl.FleetWorld{}, impl.FleetReport{}), impl.FleetWorld{}) || !sameWharf(impl.FleetSweep(impl.FleetWorld{}), impl.FleetWorld{}) {
		t.Error("of nothing there is something")
	}
}

func TestFleetHearAndSweepAsRead(t *testing.T) {
	t.Parallel()
	r := rand.New(rand.NewSource(292))
	met := map[string]int{}
	note := func(what string) { met[what]++ }
	for i := range 4000 {
		w := withEndingWanted(r, randomWharf(r))
		if i%20 == 0 {
			breakWharf(r, &w)
		}
		for range 3 {
			checkHeard(t, "a random one", w, reportNear(r, w), note)
		}
		checkSwept(t, "a random one", w, func(what string) { met["sweep: "+what]++ })
		if t.Failed() {
			return
		}
	}
	for _, what := range []string{
		"not valid", "not ok", "of another berth", "at the end of versions", "it ends, and runs", "it ends, and is wanted", "it ends, and was not heard of", "gone",
		"still 2", "still 3", "from 2 to 3", "from 3 to 2", "from 4 to 2", "from 4 to 3",
		"sweep: not valid", "sweep: at the end of versions", "sweep: it ends without a berth", "sweep: it waits", "sweep: gone 0", "sweep: gone 1", "sweep: gone 2", "sweep: gone 3",
		"sweep: given up in 2, true", "sweep: given up in 2, false", "sweep: given up in 3, true", "sweep: given up in 3, false", "sweep: given up in 4, true", "sweep: given up in 4, false",
		"sweep: stays in 2, true", "sweep: stays in 2, false", "sweep: stays in 3, true", "sweep: stays in 3, false", "sweep: stays in 4, true", "sweep: stays in 4, false",
	} {
		if met[what] < 40 {
			t.Errorf("the fleets tell too little of %q: %v", what, met)
		}
	}
}

package tests

import (
	"fmt"
	"math/rand"
	"reflect"
	"slices"
	"strconv"
	"strings"
	"testing"

	"loop.example/wharffleet/impl"
)

// A second reading of chapter 29, made another way than the program: what a report has is looked for in its text, and copies are taken out of the book one by one.

func modelReportOf(m impl.Mate) impl.FleetReport {
	if len(modelMateFaults(m)) > 0 || !m.Up {
		return impl.FleetReport{}
	}
	r := impl.FleetReport{Berth: m.Name, Seen: map[bool]int{true: m.Seen}[m.Known]}
	for _, run := range m.Runs {
		r.Runs = append(r.Runs, impl.FleetRan{Copy: run.Want.Copy, Version: run.Want.Version, State: run.State})
	}
	return r
}

// modelFaultsOfReport are the conditions of an ok report that one does not meet.
func modelFaultsOfReport(r impl.FleetReport) []string {
	var faults []string
	fault := func(name string, is bool) {
		if is {
			faults = append(faults, name)
		}
	}
	modelReportFaults(r, fault, func(name string, n, least, most int) { fault(name, n < least || n > most) })
	return modelSet(faults)
}

// modelRunsText has a line for each run of a report, with a space behind its name: no name has one.
func modelRunsText(r impl.FleetReport) string {
	text := "\n"
	for _, run := range r.Runs {
		text += fmt.Sprintf("%s %d %d\n", run.Copy, run.Version, run.State)
	}
	return text
}

func modelHeard(w impl.FleetWorld, r impl.FleetReport, note func(string)) impl.FleetWorld {
	if len(modelWharfFaults(w)) > 0 {
		note("not valid")
		return impl.FleetWorld{}
	}
	w = plainWharf(w)
	at := slices.IndexFunc(w.Berths, func(b impl.PilotBerth) bool { return b.Name == r.Berth })
	switch {
	case len(modelFaultsOfReport(r)) > 0:
		note("not ok")
		return w
	case at < 0:
		note("of another berth")
		return w
	}
	w.Heard[at].Time = w.Mates.Land.Time
	if w.Stew.Now == 1000000 {
		note("at the end of versions")
		return w
	}
	place, runs, changes := placeOf(w, r.Berth), modelRunsText(r), 0
	for i := len(w.Stew.Copies) - 1; i >= 0; i-- {
		c := &w.Stew.Copies[i]
		name := fmt.Sprint(c.Service, "-", c.Number)
		_, wanted := modelWantFor(place.Wants, name)
		is := impl.StewStarting
		if strings.Contains(runs, fmt.Sprintf("\n%s %d 4\n", name, c.Image)) {
			is = impl.StewReady
		}
		switch {
		case c.Berth != r.Berth:
		case c.Ending && strings.Contains(runs, "\n"+name+" "):
			note("it ends, and runs")
		case c.Ending && wanted:
			note("it ends, and is wanted")
		case c.Ending && r.Seen < place.Seen:
			note("it ends, and was not heard of")
		case c.Ending:
			note("gone")
			changes++
			w.Stew.Copies = slices.Delete(w.Stew.Copies, i, i+1)
		case c.State == is:
			note(fmt.Sprint("still ", is))
		default:
			note(fmt.Sprint("from ", c.State, " to ", is))
			changes++
			c.State, c.Version = is, w.Stew.Now+1
		}
	}
	return modelChanged(w, changes)
}

// modelChanged is a fleet behind so many changes of its copies at once, and without what belongs to copies that are gone.
func modelChanged(w impl.FleetWorld, changes int) impl.FleetWorld {
	if changes > 0 {
		w.Stew.Now++
	}
	return modelTidy(w)
}

// modelTidy is a fleet in which there are just the slots of copies that are placed, and the kinds of services that are there.
func modelTidy(w impl.FleetWorld) impl.FleetWorld {
	var slots []impl.FleetSlot
	var kinds []impl.FleetKind
	for _, c := range w.Stew.Copies {
		for _, s := range w.Slots {
			if s.Service == c.Service && s.Number == c.Number && !c.Ending && c.Berth != "" {
				slots = append(slots, s)
			}
		}
	}
	for _, s := range w.Stew.Services {
		for _, k := range w.Kinds {
			if k.Service == s.Name {
				kinds = append(kinds, k)
			}
		}
	}
	w.Slots, w.Kinds = slots, kinds
	return w
}

func modelSwept(w impl.FleetWorld, note func(string)) impl.FleetWorld {
	if len(modelWharfFaults(w)) > 0 {
		note("not valid")
		return impl.FleetWorld{}
	}
	w = plainWharf(w)
	silent := ""
	for _, h := range w.Heard {
		if w.Mates.Land.Time-h.Time >= 41 {
			silent += "@" + h.Berth + "@"
		}
	}
	var left []impl.StewCopy
	for _, c := range w.Stew.Copies {
		switch {
		case c.Berth == "" && c.Ending:
			note("it ends without a berth")
		case c.Berth == "":
			note("it waits")
			left = append(left, c)
		case strings.Contains(silent, "@"+c.Berth+"@"):
			note(fmt.Sprintf("given up in %d, %v", c.State, c.Ending))
		default:
			note(fmt.Sprintf("stays in %d, %v", c.State, c.Ending))
			left = append(left, c)
		}
	}
	if w.Stew.Now == 1000000 {
		note("at the end of versions")
		return w
	}
	changes := len(w.Stew.Copies) - len(left)
	note(fmt.Sprint("gone ", min(3, changes)))
	w.Stew.Copies = left
	return modelChanged(w, changes)
}

func sameReport(a, b impl.FleetReport) bool {
	a.Runs, b.Runs = nilIfEmpty(a.Runs), nilIfEmpty(b.Runs)
	return reflect.DeepEqual(a, b)
}

func checkReportOf(t *testing.T, what string, m impl.Mate) impl.FleetReport {
	t.Helper()
	got := impl.FleetReportOf(m)
	if want := modelReportOf(m); !sameReport(got, want) {
		t.Errorf("%s: FleetReportOf %+v\nis %+v\nnot %+v", what, m, got, want)
	}
	return got
}

// checkHeard holds FleetHear against the second reading, and against promises 33 and 37: the fleet stays valid, and a report that is heard twice changes nothing more.
func checkHeard(t *testing.T, what string, w impl.FleetWorld, r impl.FleetReport, note func(string)) impl.FleetWorld {
	t.Helper()
	got := impl.FleetHear(w, r)
	if want := modelHeard(w, r, note); !sameWharf(got, want) {
		t.Errorf("%s: FleetHear of %+v\nin %+v\nis %+v\nnot %+v", what, r, w, got, want)
	}
	if impl.FleetValid(got) != impl.FleetValid(w) {
		t.Errorf("%s: %q behind %+v", what, modelWharfFaults(got), r)
	}
	if again := impl.FleetHear(got, r); !sameWharf(again, got) {
		t.Errorf("%s: heard twice, %+v\nleaves %+v\nand once %+v", what, r, again, got)
	}
	return got
}

// checkSwept holds FleetSweep against the second reading, and against promise 33.
func checkSwept(t *testing.T, what string, w impl.FleetWorld, note func(string)) impl.FleetWorld {
	t.Helper()
	got := impl.FleetSweep(w)
	if want := modelSwept(w, note); !sameWharf(got, want) {
		t.Errorf("%s: FleetSweep of %+v\nis %+v\nnot %+v", what, w, got, want)
	}
	if impl.FleetValid(got) != impl.FleetValid(w) {
		t.Errorf("%s: %q behind a sweep", what, modelWharfFaults(got))
	}
	return got
}

// checkHearAndSweep holds chapter 29 of a fleet, valid or not: what its berths could tell, what is under way to it, and what it gives up.
func checkHearAndSweep(t *testing.T, what string, w impl.FleetWorld) {
	t.Helper()
	reports := w.Reports[:min(2, len(w.Reports))]
	if len(w.Berths) > 0 && len(w.Mates.Mates) > 0 {
		reports = append(slices.Clone(reports), impl.FleetReportOf(w.Mates.Mates[0]), impl.FleetReport{Berth: w.Berths[len(w.Berths)-1].Name, Seen: 1000000})
	}
	for _, r := range reports {
		checkHeard(t, what, w, r, noNote)
	}
	checkSwept(t, what, w, noNote)
}

// copiesIn are all copies of a fleet: their names, berths, states and versions.
func copiesIn(w impl.FleetWorld) string {
	var all []string
	for _, c := range w.Stew.Copies {
		text := fmt.Sprint(c.Service, "-", c.Number)
		if c.Ending {
			text += "e"
		}
		if c.Berth != "" {
			text += "@" + c.Berth
		}
		all = append(all, fmt.Sprintf("%s/%d/v%d", text, c.State, c.Version))
	}
	return strings.Join(all, " ")
}

// reportOf has runs such as "web-1/3/4": a name, a version and a state.
func reportOf(berth string, seen int, runs string) impl.FleetReport {
	r := impl.FleetReport{Berth: berth, Seen: seen}
	for _, word := range strings.Fields(runs) {
		parts := strings.Split(word, "/")
		version, _ := strconv.Atoi(parts[1])
		state, _ := strconv.Atoi(parts[2])
		r.Runs = append(r.Runs, ranOf(parts[0], version, state))
	}
	return r
}

// reportNear is one that a berth of the fleet could send: mostly ok, of about what is to run there, and about as new as what it was told.
func reportNear(r *rand.Rand, w impl.FleetWorld) impl.FleetReport {
	berth := pickOf(r, w.Berths...).Name
	if r.Intn(20) == 0 {
		berth = pickOf(r, "nowhere", "b9", "x_y", "zz", "c", "a--")
	}
	seen := placeOf(w, berth).Seen
	report := impl.FleetReport{Berth: berth, Seen: max(0, min(1000000, pickOf(r, seen-1, seen, seen, seen, seen+1, 0, 1000000)))}
	runs := map[string]impl.FleetRan{}
	for _, c := range w.Stew.Copies {
		if c.Berth != berth && r.Intn(20) > 0 || r.Intn(4) == 0 || c.Ending && r.Intn(3) > 0 {
			continue
		}
		name := fmt.Sprint(c.Service, "-", c.Number)
		runs[name] = ranOf(name, pickOf(r, c.Image, c.Image, c.Image, c.Image, 1, 2, 1000000), pickOf(r, 1, 2, 3, 4, 4, 4, 4, 4, 5, 6))
	}
	for _, name := range someOf(r, []string{"!", "a-1", "web", "web-", "web-1x", "zz-9", "~"}, pickOf(r, 0, 0, 1, 2)) {
		runs[name] = ranOf(name, 1+r.Intn(3), 1+r.Intn(6))
	}
	for _, run := range runs {
		report.Runs = append(report.Runs, run)
	}
	slices.SortFunc(report.Runs, func(a, b impl.FleetRan) int { return strings.Compare(a.Copy, b.Copy) })
	report.Runs = report.Runs[:min(len(report.Runs), 20)]
	if r.Intn(30) == 0 {
		report = brokenReport(r, pickOf(r, -1, 0, 7, 1000001), pickOf(r, "", "A", "b b", strings.Repeat("z", 21)))
	}
	return report
}

// withEndingWanted is a fleet some of whose places want some of what is Ending there yet.
func withEndingWanted(r *rand.Rand, w impl.FleetWorld) impl.FleetWorld {
	w = plainWharf(w)
	for i, p := range w.Mates.Land.Places {
		for _, c := range w.Stew.Copies {
			name := fmt.Sprint(c.Service, "-", c.Number)
			if _, wanted := modelWantFor(p.Wants, name); c.Ending && c.Berth == p.Berth && !wanted && len(p.Wants) < 10 && r.Intn(3) == 0 {
				p.Wants = append(p.Wants, impl.MateWant{Copy: name, Version: pickOf(r, c.Image, 9)})
			}
		}
		slices.SortFunc(p.Wants, func(a, b impl.MateWant) int { return strings.Compare(a.Copy, b.Copy) })
		w.Mates.Land.Places[i] = p
	}
	return w
}

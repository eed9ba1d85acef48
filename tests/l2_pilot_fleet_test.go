package tests

import (
	"fmt"
	"math"
	"math/rand"
	"reflect"
	"slices"
	"strings"
	"testing"

	"loop.example/wharffleet/impl"
)

const (
	name20 = "abcdefghij-123456_89"
	name21 = name20 + "x"
)

// smallFleet is valid, and has two of each.
func smallFleet() impl.PilotFleet {
	return impl.PilotFleet{
		Berths: []impl.PilotBerth{
			{Name: "b1", Zone: "east", Marks: []string{"color=red", "ssd"}, Room: 10, Hold: 20},
			{Name: "b2", Zone: "west", Room: 5, Hold: 5},
		},
		Services: []impl.PilotService{{Name: "db"}, {Name: "web", Spare: 1}},
		Copies: []impl.PilotCopy{
			{Name: "c1", Service: "db", Rank: 3, Born: 7, Room: 4, Hold: 6, Select: "ssd & zone=east", Likes: []impl.PilotLike{{Select: "color", Weight: 2}}, At: "b1"},
			{Name: "c2", Service: "web", Room: 2, Hold: 1, At: "b1"},
		},
	}
}

// numbered are n things with ascending names.
func numbered[T any](n int, make func(name string) T) []T {
	var list []T
	for i := range n {
		list = append(list, make(fmt.Sprintf("n%03d", i)))
	}
	return list
}

type fleetChange struct {
	what   string
	valid  bool
	change func(f *impl.PilotFleet)
}

func checkChanges(t *testing.T, changes []fleetChange) {
	t.Helper()
	for _, c := range changes {
		f := smallFleet()
		c.change(&f)
		if got := impl.PilotValid(f); got != c.valid {
			t.Errorf("%s: PilotValid is %v", c.what, got)
		}
		if fault := modelFleetFault(f); (fault == "") != c.valid {
			t.Errorf("%s: the second reading says %q", c.what, fault)
		}
		if !c.valid {
			checkNothingFits(t, c.what, f)
		}
	}
}

// checkNothingFits holds what PilotFits, PilotRight and PilotUsed answer in a fleet that is not valid.
func checkNothingFits(t *testing.T, what string, f impl.PilotFleet) {
	t.Helper()
	for _, c := range []string{"c1", "c2", "none", ""} {
		for _, b := range []string{"b1", "b2", "none", ""} {
			if got := impl.PilotFits(f, c, b); got != impl.PilotUnknown {
				t.Errorf("%s: PilotFits(%q, %q) is %d", what, c, b, got)
			}
		}
	}
	if got := impl.PilotRight(f); len(got) != 0 {
		t.Errorf("%s: PilotRight is %q", what, got)
	}
	checkUsed(t, what, f)
}

// checkUsed holds PilotUsed of all berths that are named in a fleet against the second reading.
func checkUsed(t *testing.T, what string, f impl.PilotFleet) {
	t.Helper()
	names := []string{"", "none", "b1"}
	for _, b := range f.Berths {
		names = append(names, b.Name)
	}
	for _, c := range f.Copies {
		names = append(names, c.At)
	}
	slices.Sort(names)
	for _, n := range slices.Compact(names) {
		room, hold := impl.PilotUsed(f, n)
		if r, h := modelUsed(f, n); r != room || h != hold {
			t.Errorf("%s: PilotUsed(%q) is %d and %d, not %d and %d", what, n, room, hold, r, h)
		}
	}
}

func TestPilotValidNumbersOfThings(t *testing.T) {
	berths := func(n int) func(f *impl.PilotFleet) {
		return func(f *impl.PilotFleet) {
			f.Berths = append(f.Berths, numbered(n-2, func(name string) impl.PilotBerth { return impl.PilotBerth{Name: name, Zone: "z"} })...)
		}
	}
	marks := func(n int) func(f *impl.PilotFleet) {
		return func(f *impl.PilotFleet) { f.Berths[1].Marks = numbered(n, func(name string) string { return name }) }
	}
	services := func(n int) func(f *impl.PilotFleet) {
		return func(f *impl.PilotFleet) {
			s := numbered(n-2, func(name string) impl.PilotService { return impl.PilotService{Name: name} })
			f.Services = append(append([]impl.PilotService{{Name: "db"}}, s...), impl.PilotService{Name: "web"})
		}
	}
	copies := func(n int, at string) func(f *impl.PilotFleet) {
		return func(f *impl.PilotFleet) {
			f.Copies = append(f.Copies, numbered(n-2, func(name string) impl.PilotCopy { return impl.PilotCopy{Name: name, Service: "web", At: at} })...)
		}
	}
	likes := func(n int) func(f *impl.PilotFleet) {
		return func(f *impl.PilotFleet) { f.Copies[1].Likes = make([]impl.PilotLike, n) }
	}
	checkChanges(t, []fleetChange{
		{"as it is", true, func(f *impl.PilotFleet) {}},
		{"nothing at all", true, func(f *impl.PilotFleet) { *f = impl.PilotFleet{} }},
		{"pack", true, func(f *impl.PilotFleet) { f.Pack = true }},
		{"closed", true, func(f *impl.PilotFleet) { f.Berths[0].Closed = true }},
		{"12 berths", true, berths(impl.PilotMaxBerths)}, {"13 berths", false, berths(impl.PilotMaxBerths + 1)},
		{"10 marks", true, marks(impl.PilotMaxMarks)}, {"11 marks", false, marks(impl.PilotMaxMarks + 1)},
		{"30 services", true, services(impl.PilotMaxServices)}, {"31 services", false, services(impl.PilotMaxServices + 1)},
		{"60 copies", true, copies(impl.PilotMaxCopies, "")}, {"61 copies", false, copies(impl.PilotMaxCopies+1, "")},
		{"5 likes", true, likes(impl.PilotMaxLikes)}, {"6 likes", false, likes(impl.PilotMaxLikes + 1)},
		{"10 on a berth", true, copies(impl.PilotMaxStand, "b1")}, {"11 on a berth", false, copies(impl.PilotMaxStand+1, "b1")},
		{"10 on a berth and 10 on another", true, func(f *impl.PilotFleet) {
			copies(22, "b2")(f)
			for i := range 10 {
				f.Copies[i].At = []string{"b1", ""}[i/8]
			}
			f.Copies[20].At, f.Copies[21].At = "b1", "b1"
		}},
		{"more than can be counted together", false, func(f *impl.PilotFleet) {
			copies(100000, "b1")(f)
		}},
	})
}

func TestPilotValidRanges(t *testing.T) {
	var changes []fleetChange
	for _, c := range []struct {
		what        string
		least, most int
		set         func(f *impl.PilotFleet, n int)
	}{
		{"a berth's room", 6, 1000, func(f *impl.PilotFleet, n int) { f.Berths[0].Room = n }},
		{"a berth's hold", 7, 1000, func(f *impl.PilotFleet, n int) { f.Berths[0].Hold = n }},
		{"an empty berth's room", 0, 1000, func(f *impl.PilotFleet, n int) { f.Berths[1].Room = n }},
		{"an empty berth's hold", 0, 1000, func(f *impl.PilotFleet, n int) { f.Berths[1].Hold = n }},
		{"a spare", 0, 60, func(f *impl.PilotFleet, n int) { f.Services[0].Spare = n }},
		{"a rank", 0, 100, func(f *impl.PilotFleet, n int) { f.Copies[1].Rank = n }},
		{"a birth", 0, 1000000, func(f *impl.PilotFleet, n int) { f.Copies[1].Born = n }},
		{"a standing copy's room", 0, 8, func(f *impl.PilotFleet, n int) { f.Copies[0].Room = n }},
		{"a standing copy's hold", 0, 19, func(f *impl.PilotFleet, n int) { f.Copies[0].Hold = n }},
		{"a waiting copy's room", 0, 1000, func(f *impl.PilotFleet, n int) { f.Copies[0].Room, f.Copies[0].At = n, "" }},
		{"a waiting copy's hold", 0, 1000, func(f *impl.PilotFleet, n int) { f.Copies[0].Hold, f.Copies[0].At = n, "" }},
		{"all of a great berth", 0, 1000, func(f *impl.PilotFleet, n int) {
			f.Berths[1].Room, f.Berths[1].Hold = 1000, 1000
			f.Copies[0].Room, f.Copies[0].Hold, f.Copies[0].At = n, n, "b2"
		}},
		{"a weight", -9, 9, func(f *impl.PilotFleet, n int) { f.Copies[0].Likes[0].Weight = n }},
		{"apart", 0, 2, func(f *impl.PilotFleet, n int) { f.Copies[0].Apart = n }},
	} {
		for _, n := range []int{c.least, c.most, c.least - 1, c.most + 1, math.MinInt, math.MaxInt} {
			what := fmt.Sprintf("%s is %d", c.what, n)
			changes = append(changes, fleetChange{what, n >= c.least && n <= c.most, func(f *impl.PilotFleet) { c.set(f, n) }})
		}
	}
	checkChanges(t, changes)
}

func TestPilotValidNames(t *testing.T) {
	var changes []fleetChange
	for _, c := range []struct {
		what  string
		empty bool
		set   func(f *impl.PilotFleet, n string)
	}{
		{"a berth's name", false, func(f *impl.PilotFleet, n string) { f.Berths = f.Berths[:1]; f.Berths[0].Name, f.Copies = n, nil }},
		{"a zone", false, func(f *impl.PilotFleet, n string) { f.Berths[0].Zone = n }},
		{"a mark", false, func(f *impl.PilotFleet, n string) { f.Berths[1].Marks = []string{n} }},
		{"a mark with a value", false, func(f *impl.PilotFleet, n string) { f.Berths[1].Marks = []string{n + "=v"} }},
		{"a mark's value", false, func(f *impl.PilotFleet, n string) { f.Berths[1].Marks = []string{"v=" + n} }},
		{"a service's name", false, func(f *impl.PilotFleet, n string) { f.Services = f.Services[:1]; f.Services[0].Name, f.Copies = n, nil }},
		{"a copy's name", false, func(f *impl.PilotFleet, n string) { f.Copies = f.Copies[:1]; f.Copies[0].Name = n }},
		{"near", true, func(f *impl.PilotFleet, n string) { f.Copies[0].Near = n }},
		{"fixed", true, func(f *impl.PilotFleet, n string) { f.Copies[0].Fixed = n }},
	} {
		for n, ok := range map[string]bool{"a": true, name20: true, "-": true, "_": true, "7": true, "": c.empty, name21: false, "A": false, "a b": false, " a": false, "a ": false, "a.b": false, "\x00": false, "é": false, "a\n": false, "=": false, "a=b=c": false} {
			what := fmt.Sprintf("%s is %q", c.what, n)
			changes = append(changes, fleetChange{what, ok, func(f *impl.PilotFleet) { c.set(f, n) }})
		}
	}
	checkChanges(t, changes)
}

func TestPilotValidOrder(t *testing.T) {
	var changes []fleetChange
	for names, ok := range map[[2]string]bool{
		{"b1", "b2"}: true, {"b", "bb"}: true, {"b-", "b0"}: true, {"b9", "b_"}: true, {"b_", "ba"}: true, {"b10", "b9"}: true,
		{"b2", "b1"}: false, {"b1", "b1"}: false, {"bb", "b"}: false, {"b0", "b-"}: false, {"ba", "b_"}: false, {"b9", "b10"}: false,
	} {
		changes = append(changes,
			fleetChange{fmt.Sprintf("berths %q", names), ok, func(f *impl.PilotFleet) {
				f.Berths[0].Name, f.Berths[1].Name = names[0], names[1]
				f.Copies[0].At, f.Copies[1].At = names[0], names[0]
				f.Berths[1].Room, f.Berths[1].Hold = 10, 10
			}},
			fleetChange{fmt.Sprintf("services %q", names), ok, func(f *impl.PilotFleet) {
				f.Services[0].Name, f.Services[1].Name = names[0], names[1]
				f.Copies[0].Service, f.Copies[1].Service = names[0], names[1]
			}},
			fleetChange{fmt.Sprintf("copies %q", names), ok, func(f *impl.PilotFleet) { f.Copies[0].Name, f.Copies[1].Name = names[0], names[1] }},
			fleetChange{fmt.Sprintf("marks %q", names), ok, func(f *impl.PilotFleet) { f.Berths[1].Marks = []string{names[0], names[1]} }},
		)
	}
	for marks, ok := range map[string]bool{
		"a a=b": false, "a=b a=c": false, "a=b a=b": false, "a a-b a=b": false, "a a0 a=b": false, "a=b a": false, "a a=b a_": false,
		"a b=a": true, "a-b a=b": true, "a=b a_": true, "a=b b=b": true, "zone=west": true, "zone": true,
	} {
		changes = append(changes, fleetChange{"marks " + marks, ok, func(f *impl.PilotFleet) { f.Berths[1].Marks = strings.Fields(marks) }})
	}
	checkChanges(t, changes)
}

func TestPilotValidSelects(t *testing.T) {
	long := strings.Repeat(" ", 199) + "a"
	var changes []fleetChange
	for s, ok := range map[string]bool{
		"": true, "  ": true, "a": true, "a & (b | !c=d)": true, "none-such": true, long: true, strings.Repeat("!", 20) + "a": true,
		"(": false, "a b": false, "a &": false, "A": false, "a\t": false, long + " ": false, strings.Repeat("!", 21) + "a": false, name21: false,
	} {
		changes = append(changes,
			fleetChange{fmt.Sprintf("select %q", s), ok, func(f *impl.PilotFleet) { f.Copies[0].Select = s }},
			fleetChange{fmt.Sprintf("like %q", s), ok, func(f *impl.PilotFleet) { f.Copies[1].Likes = []impl.PilotLike{{Select: "a"}, {Select: s}} }},
		)
	}
	checkChanges(t, changes)
}

func TestPilotValidWhatIsNamed(t *testing.T) {
	checkChanges(t, []fleetChange{
		{"a service that is not there", false, func(f *impl.PilotFleet) { f.Copies[1].Service = "we" }},
		{"no service", false, func(f *impl.PilotFleet) { f.Copies[1].Service = "" }},
		{"no services", false, func(f *impl.PilotFleet) { f.Services = nil }},
		{"a service behind the last", false, func(f *impl.PilotFleet) { f.Services = f.Services[:1] }},
		{"a berth that is not there", false, func(f *impl.PilotFleet) { f.Copies[1].At = "b3" }},
		{"a berth that is no name", false, func(f *impl.PilotFleet) { f.Copies[1].At = " " }},
		{"no berths", false, func(f *impl.PilotFleet) { f.Berths = nil }},
		{"no berths, and all wait", true, func(f *impl.PilotFleet) { f.Berths = nil; f.Copies[0].At, f.Copies[1].At = "", "" }},
		{"near to what is not there", true, func(f *impl.PilotFleet) { f.Copies[1].Near = "other" }},
		{"fixed to what is not there", true, func(f *impl.PilotFleet) { f.Copies[1].Fixed = "other" }},
		{"standing where it does not fit", true, func(f *impl.PilotFleet) { f.Copies[1].Select, f.Copies[1].Fixed = "!ssd", "b2" }},
		{"room that is not enough for two", false, func(f *impl.PilotFleet) { f.Copies[1].Room = 7 }},
		{"hold that is not enough for two", false, func(f *impl.PilotFleet) { f.Copies[1].Hold = 15 }},
		{"room elsewhere", false, func(f *impl.PilotFleet) { f.Copies[0].At, f.Copies[0].Room = "b2", 6 }},
		{"sums that wrap to less than 0", false, func(f *impl.PilotFleet) { f.Copies[0].Room, f.Copies[1].Room = math.MaxInt, math.MaxInt }},
		{"sums that wrap to 0", false, func(f *impl.PilotFleet) { f.Copies[0].Hold, f.Copies[1].Hold = math.MinInt, math.MinInt }},
	})
}

func TestPilotUsed(t *testing.T) {
	f := smallFleet()
	for berth, want := range map[string][2]int{"b1": {6, 7}, "b2": {0, 0}, "b3": {0, 0}, "": {0, 0}, "B1": {0, 0}, "b": {0, 0}, "b1 ": {0, 0}} {
		if room, hold := impl.PilotUsed(f, berth); room != want[0] || hold != want[1] {
			t.Errorf("PilotUsed(%q) is %d and %d", berth, room, hold)
		}
	}
	f.Copies[0].At = ""
	if room, hold := impl.PilotUsed(f, "b1"); room != 2 || hold != 1 {
		t.Errorf("what waits counts: %d and %d", room, hold)
	}
	if room, hold := impl.PilotUsed(f, ""); room != 0 || hold != 0 {
		t.Errorf("what waits is counted together: %d and %d", room, hold)
	}
}

// What is not valid is counted as it is.
func TestPilotUsedNotValid(t *testing.T) {
	f := impl.PilotFleet{
		Berths: []impl.PilotBerth{{Name: "b2"}, {Name: "No Name"}, {Name: ""}, {Name: "b2"}},
		Copies: []impl.PilotCopy{
			{At: "b2", Room: 3, Hold: -1}, {At: "b2", Room: 2000, Hold: -5}, {At: "No Name", Room: 1, Hold: 1},
			{At: "gone", Room: 9, Hold: 9}, {At: "", Room: 9, Hold: 9},
		},
	}
	for berth, want := range map[string][2]int{"b2": {2003, -6}, "No Name": {1, 1}, "gone": {0, 0}, "": {0, 0}} {
		if room, hold := impl.PilotUsed(f, berth); room != want[0] || hold != want[1] {
			t.Errorf("PilotUsed(%q) is %d and %d", berth, room, hold)
		}
	}
}

// breaks are changes after which a fleet mostly is not valid.
func breaks(r *rand.Rand, f *impl.PilotFleet) {
	number := pickOf(r, -1, 0, 1, 5, 9, 10, 60, 61, 100, 101, 1000, 1001, 1000000, 1000001, math.MinInt, math.MaxInt)
	text := pickOf(r, "", "a", "b0", "b1", "c01", "db", "web", "A", "a=b", "a b", "(", name20, name21)
	if len(f.Berths) > 0 {
		b := &f.Berths[r.Intn(len(f.Berths))]
		[]func(){func() { b.Name = text }, func() { b.Zone = text }, func() { b.Room = number }, func() { b.Hold = number }, func() { b.Marks = append(b.Marks, text) }, func() {}, func() {}}[r.Intn(7)]()
	}
	if len(f.Copies) > 0 {
		c := &f.Copies[r.Intn(len(f.Copies))]
		[]func(){
			func() { c.Name = text }, func() { c.Service = text }, func() { c.Rank = number }, func() { c.Born = number }, func() { c.Room = number }, func() { c.Hold = number }, func() { c.Select = text },
			func() { c.Likes = append(c.Likes, impl.PilotLike{Select: text, Weight: number}) }, func() { c.Apart = number }, func() { c.Near = text }, func() { c.Fixed = text }, func() { c.At = text }, func() {},
		}[r.Intn(13)]()
	}
	if r.Intn(8) == 0 {
		s := &f.Services[r.Intn(len(f.Services))]
		[]func(){func() { s.Name = text }, func() { s.Spare = number }, func() { f.Services = f.Services[1:] }}[r.Intn(3)]()
	}
}

func TestPilotValidRandom(t *testing.T) {
	t.Parallel()
	r := rand.New(rand.NewSource(4))
	counts := map[string]int{}
	for range 20000 {
		f := randomFleet(r)
		if !impl.PilotValid(f) {
			t.Fatalf("not valid: %+v", f)
		}
		checkUsed(t, "a valid fleet", f)
		breaks(r, &f)
		fault := modelFleetFault(f)
		counts[fault]++
		if got := impl.PilotValid(f); got != (fault == "") {
			t.Fatalf("PilotValid(%+v) is %v: %q", f, got, fault)
		}
		if fault != "" {
			checkNothingFits(t, fault, f)
		}
	}
	for _, fault := range []string{"", "names", "stand", "service", "at", "select", "weight", "near or fixed", "rank or born", "apart", "copy's size", "berth's size", "zone", "mark", "marks", "spare"} {
		if counts[fault] < 20 {
			t.Errorf("%q was met %d times: the fleets tell too little", fault, counts[fault])
		}
	}
}

// spared is a fleet whose lists have room behind their ends, filled, so that a write there is seen.
func spared(f impl.PilotFleet) impl.PilotFleet {
	f = cloneFleet(f)
	f.Berths = append(f.Berths, impl.PilotBerth{Name: "behind"})[:len(f.Berths)]
	f.Services = append(f.Services, impl.PilotService{Name: "behind"})[:len(f.Services)]
	f.Copies = append(f.Copies, impl.PilotCopy{Name: "behind"})[:len(f.Copies)]
	for i, b := range f.Berths {
		f.Berths[i].Marks = append(slices.Clone(b.Marks), "behind")[:len(b.Marks)]
	}
	for i, c := range f.Copies {
		f.Copies[i].Likes = append(slices.Clone(c.Likes), impl.PilotLike{Select: "behind"})[:len(c.Likes)]
	}
	return f
}

// wholeFleet is a fleet with what stands behind the ends of its lists.
func wholeFleet(f impl.PilotFleet) impl.PilotFleet {
	f.Berths, f.Services, f.Copies = slices.Clone(f.Berths[:len(f.Berths)+1]), slices.Clone(f.Services[:len(f.Services)+1]), slices.Clone(f.Copies[:len(f.Copies)+1])
	for i, b := range f.Berths[:len(f.Berths)-1] {
		f.Berths[i].Marks = slices.Clone(b.Marks[:len(b.Marks)+1])
	}
	for i, c := range f.Copies[:len(f.Copies)-1] {
		f.Copies[i].Likes = slices.Clone(c.Likes[:len(c.Likes)+1])
	}
	return f
}

// checkUnchanged holds that a call writes nothing into a fleet or behind the ends of its lists.
func checkUnchanged(t *testing.T, f impl.PilotFleet, call func(f impl.PilotFleet)) {
	t.Helper()
	f = spared(f)
	before := wholeFleet(f)
	call(f)
	if after := wholeFleet(f); !reflect.DeepEqual(before, after) {
		t.Errorf("the fleet was %+v, and is %+v", before, after)
	}
}

func TestPilotFleetIsNotChanged(t *testing.T) {
	r := rand.New(rand.NewSource(5))
	for i := range 300 {
		f := randomFleet(r)
		if i%3 == 0 {
			breaks(r, &f)
		}
		checkUnchanged(t, f, func(f impl.PilotFleet) {
			impl.PilotValid(f)
			impl.PilotUsed(f, "b0")
			impl.PilotRight(f)
			for _, c := range f.Copies {
				impl.PilotFits(f, c.Name, "b0")
				impl.PilotFits(f, c.Name, "b1")
			}
		})
	}
}

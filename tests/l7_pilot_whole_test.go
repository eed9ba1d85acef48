package tests

import (
	"math/rand"
	"runtime"
	"slices"
	"strings"
	"testing"
	"time"

	"loop.example/wharffleet/impl"
)

// tellStep is "copy>berth", and behind it those that go, each with a "-".
func tellStep(s impl.PilotStep) string {
	told := s.Copy + ">" + s.Berth
	for _, g := range s.Gone {
		told += "-" + g
	}
	return told
}

func checkNext(t *testing.T, f impl.PilotFleet, want string) {
	t.Helper()
	if !impl.PilotValid(f) {
		t.Fatalf("not valid: %+v", f)
	}
	got := ""
	if step, ok := impl.PilotNext(f); ok {
		got = tellStep(step)
	} else if !sameStep(step, impl.PilotStep{}) {
		t.Errorf("nothing is %+v", step)
	}
	if got != want {
		t.Errorf("PilotNext is %q, not %q: %+v", got, want, f)
	}
}

// wayFleet is a line of copies that can be made to go; they need room on the three berths of ten each.
func wayFleet(copies ...impl.PilotCopy) impl.PilotFleet {
	f := lineOf(copies...)
	f.Services[0].Spare, f.Services[1].Spare = 30, 30
	return f
}

func standing(at string, rank, room int) impl.PilotCopy {
	return impl.PilotCopy{Service: "db", At: at, Rank: rank, Room: room}
}

func waiting(rank, room int) impl.PilotCopy { return impl.PilotCopy{Rank: rank, Room: room} }

func TestPilotNext(t *testing.T) {
	checkNext(t, impl.PilotFleet{}, "")
	checkNext(t, wayFleet(), "")
	checkNext(t, wayFleet(standing("a1", 1, 5)), "")
	checkNext(t, wayFleet(waiting(0, 3)), "a>a1")
	// The first of the queue that fits, with nobody gone, ahead of a greater one for which some must go.
	checkNext(t, wayFleet(waiting(5, 10), waiting(1, 2), standing("a1", 1, 9), standing("a2", 1, 5), standing("b1", 1, 5)), "b>a2")
	checkNext(t, wayFleet(waiting(5, 10), waiting(1, 6), standing("a1", 2, 9), standing("a2", 1, 5), standing("b1", 1, 5)), "a>a2-d")
	checkNext(t, wayFleet(waiting(5, 11), waiting(2, 6), standing("a1", 2, 9), standing("a2", 1, 5), standing("b1", 1, 5)), "b>a2-d")
	checkNext(t, wayFleet(waiting(5, 11), waiting(1, 6), standing("a1", 1, 9), standing("a2", 1, 5), standing("b1", 1, 5)), "")
	// The queue's order decides who is first: Rank, Born, Name.
	f := wayFleet(waiting(3, 6), waiting(4, 6), waiting(4, 7), standing("a1", 1, 9), standing("a2", 1, 9), standing("b1", 1, 9))
	checkNext(t, f, "b>a1-d")
	f.Copies[1].Born = 1
	checkNext(t, f, "c>a1-d")
	f.Copies[0].Rank = 5
	checkNext(t, f, "a>a1-d")
}

// Which berth it is: least harm, then the score without the victims, then the Name.
func TestPilotNextBerth(t *testing.T) {
	me := waiting(9, 5)
	checkNext(t, wayFleet(me, standing("a1", 3, 9), standing("a2", 2, 9), standing("b1", 4, 9)), "a>a2-c")
	checkNext(t, wayFleet(me, standing("a1", 3, 9), standing("a2", 3, 9), standing("b1", 2, 3), standing("b1", 2, 3)), "a>b1-d")
	checkNext(t, wayFleet(me, standing("a1", 2, 9), standing("a2", 3, 9), standing("b1", 2, 3), standing("b1", 2, 3), standing("b1", 2, 4)), "a>a1-b")
	checkNext(t, wayFleet(me, standing("a1", 3, 9), standing("a2", 2, 5), standing("a2", 2, 5), standing("b1", 2, 9)), "a>b1-e")
	// One harm: what is left counts, without those that go.
	f := wayFleet(me, standing("a1", 2, 9), standing("a2", 2, 9), standing("b1", 2, 9))
	checkNext(t, f, "a>a1-b")
	f.Berths[1].Room, f.Berths[2].Room = 11, 11
	f.Copies[2].Room, f.Copies[3].Room = 11, 11
	checkNext(t, f, "a>a2-c")
	f.Pack = true
	checkNext(t, f, "a>a1-b")
	// Ahead of it what is liked, and how many of its own are there when the victims wait.
	f.Copies[0].Likes = []impl.PilotLike{{Select: "ssd", Weight: -1}}
	checkNext(t, f, "a>a2-c")
	f.Copies[0].Likes, f.Copies[1].Service = nil, "web"
	checkNext(t, f, "a>a1-b")
	f.Pack = false
	checkNext(t, f, "a>b1-d")
	f.Copies = append(f.Copies, impl.PilotCopy{Name: "e", Service: "web", At: "a2", Rank: 50})
	checkNext(t, f, "a>b1-d")
	f.Copies[3].Rank = 3
	checkNext(t, f, "a>a1-b")
}

// What bars the first of the queue, for its harm or its spare, is asked of the next.
func TestPilotNextSpare(t *testing.T) {
	f := wayFleet(waiting(9, 10), waiting(8, 5), standing("a1", 1, 5), standing("a1", 1, 5), standing("a2", 9, 9), standing("b1", 9, 9))
	checkNext(t, f, "a>a1-c-d")
	f.Services[0].Spare = 1
	checkNext(t, f, "b>a1-c")
	f.Services[0].Spare = 0
	checkNext(t, f, "")
	f.Services[0].Spare, f.Services[1].Spare = 30, 0
	checkNext(t, f, "a>a1-c-d")
	// Those that wait count against their own service: here both are of web.
	f.Copies[2].Service, f.Copies[3].Service = "web", "web"
	for spare, want := range map[int]string{0: "", 1: "", 2: "", 3: "b>a1-c", 4: "a>a1-c-d"} {
		f.Services[1].Spare = spare
		checkNext(t, f, want)
	}
}

// checkDo holds what PilotDo makes of a step told as tellStep tells it; ok is whether it does it.
func checkDo(t *testing.T, f impl.PilotFleet, told string, ok bool) {
	t.Helper()
	if !impl.PilotValid(f) {
		t.Fatalf("not valid: %+v", f)
	}
	copy, rest, _ := strings.Cut(told, ">")
	gone := strings.Split(rest, "-")
	step := impl.PilotStep{Copy: copy, Berth: gone[0], Gone: gone[1:]}
	got, done := impl.PilotDo(f, step)
	if done != ok {
		t.Errorf("PilotDo(%+v, %q) is %v", f, told, done)
		return
	}
	want := impl.PilotFleet{}
	if ok {
		want = withCopyAt(withGone(f, step.Gone), step.Copy, step.Berth)
	}
	if !sameFleet(got, want) {
		t.Errorf("PilotDo(%+v, %q) is %+v", f, told, got)
	}
}

func TestPilotDo(t *testing.T) {
	f := wayFleet(waiting(5, 6), standing("a1", 1, 5), standing("a1", 1, 5), standing("a2", 9, 5), waiting(0, 4))
	f.Copies[4].Service = "db"
	for told, ok := range map[string]bool{
		"a>b1": true, "e>b1": true, "e>a2": true, "a>a1-b-c": true, "a>a2-d": true, "e>a1-b": true, "e>a1-c": true, "e>a1-b-c": true, "e>a2-d": true,
		// It does not fit there, or not with so few gone.
		"a>a1": false, "a>a2": false, "a>a1-b": false, "a>a1-c": false,
		// They are elsewhere, not ascending, twice, or wait.
		"a>a2-b": false, "a>b1-b": false, "a>a1-b-c-d": false, "a>b1-d": false, "a>a1-c-b": false, "a>a1-b-b": false, "a>a1-b-c-c": false, "a>a1-b-c-e": false, "a>b1-e": false, "a>b1-a": false,
		// It stands, or is not there, or the berth is not.
		"b>b1": false, "b>a1": false, "d>a2-d": false, "b>a1-b": false, "f>b1": false, ">b1": false, "a>": false, ">": false, "a>c1": false, "A>b1": false, "a>b1-none": false, "a>b1-": false,
	} {
		checkDo(t, f, told, ok)
	}
	// How many of a service may be down: of db e waits.
	for spare, want := range map[int][2]bool{0: {}, 1: {}, 2: {true, false}, 3: {true, true}} {
		f.Services[0].Spare = spare
		checkDo(t, f, "e>a1-b", want[0])
		checkDo(t, f, "e>a1-b-c", want[1])
		checkDo(t, f, "e>b1", true)
	}
}

// PilotDo asks what PilotFits asks when they are gone; ranks it does not ask.
func TestPilotDoFits(t *testing.T) {
	f := wayFleet(impl.PilotCopy{Apart: impl.PilotApartZone}, impl.PilotCopy{At: "a1", Rank: 7}, impl.PilotCopy{At: "a2"})
	checkDo(t, f, "a>a1-b", false)
	checkDo(t, f, "a>b1", true)
	f.Copies[2].At = "b1"
	checkDo(t, f, "a>a1-b", true)
	checkDo(t, f, "a>a1", false)
	f.Copies[0].Near = "web"
	checkDo(t, f, "a>a1-b", false)
	f.Copies[2].At = ""
	checkDo(t, f, "a>a1-b", true)
	f.Berths[0].Closed = true
	checkDo(t, f, "a>a1-b", false)
}

// checkAll holds the steps of PilotAll, told by tellStep, and that they lead to its fleet.
func checkAll(t *testing.T, f impl.PilotFleet, want string) {
	t.Helper()
	if !impl.PilotValid(f) {
		t.Fatalf("not valid: %+v", f)
	}
	got, steps := impl.PilotAll(f)
	end := cloneFleet(f)
	var told []string
	for _, s := range steps {
		told = append(told, tellStep(s))
		end = withCopyAt(withGone(end, s.Gone), s.Copy, s.Berth)
	}
	if line := strings.Join(told, " "); line != want {
		t.Errorf("the steps are %q, not %q: %+v", line, want, f)
	}
	if !sameFleet(got, end) {
		t.Errorf("the fleet is %+v, not %+v", got, end)
	}
}

func TestPilotAll(t *testing.T) {
	checkAll(t, impl.PilotFleet{}, "")
	checkAll(t, impl.PilotFleet{Pack: true}, "")
	checkAll(t, wayFleet(standing("a1", 1, 5)), "")
	checkAll(t, wayFleet(waiting(1, 11)), "")
	checkAll(t, wayFleet(waiting(1, 1), waiting(2, 2), waiting(3, 3)), "c>a1 b>b1 a>a2")
	// What goes comes to stand elsewhere, at once or when others have gone for it; and one that finds nothing waits.
	checkAll(t, wayFleet(waiting(9, 9), standing("a1", 1, 4), standing("a2", 2, 8), standing("b1", 3, 6)), "a>a1-b b>b1")
	checkAll(t, wayFleet(waiting(9, 9), standing("a1", 1, 8), standing("a2", 2, 8), standing("b1", 3, 8)), "a>a1-b")
	f := wayFleet(waiting(9, 9), standing("a1", 5, 8), standing("a2", 2, 8), standing("b1", 3, 8))
	f.Copies[0].Fixed = "a1"
	checkAll(t, f, "a>a1-b b>a2-c")
	f.Copies[2].Rank, f.Copies[3].Rank, f.Copies[1].Select = 4, 3, "zone=a"
	checkAll(t, f, "a>a1-b b>a2-c c>b1-d")
	f.Services[0].Spare = 2
	checkAll(t, f, "a>a1-b b>a2-c c>b1-d")
	// With less to spare none goes for b, since b itself is down by then.
	f.Services[0].Spare = 1
	checkAll(t, f, "a>a1-b")
	f.Services[0].Spare = 0
	checkAll(t, f, "")
}

// checkPromise8And9 holds both promises, and the second reading, of a valid fleet; it tells the steps.
func checkPromise8And9(t *testing.T, f impl.PilotFleet) []impl.PilotStep {
	t.Helper()
	end, steps := impl.PilotAll(f)
	now := f
	for _, s := range steps {
		next, ok := impl.PilotNext(now)
		if want, wantOk := modelNext(now); !ok || !wantOk || !sameStep(next, want) || !sameStep(next, s) {
			t.Fatalf("of %+v PilotNext(%+v) is %+v, %v, not %+v, and PilotAll has %+v", f, now, next, ok, want, s)
		}
		behind, done := impl.PilotDo(now, next)
		if want, wantDone := modelDo(now, next); !done || !wantDone || !sameFleet(behind, want) {
			t.Fatalf("PilotDo(%+v, %+v) is %+v, %v", now, next, behind, done)
		}
		checkPromise9(t, now, behind, s)
		now = behind
	}
	if next, ok := impl.PilotNext(now); ok || !sameStep(next, impl.PilotStep{}) {
		t.Fatalf("PilotAll(%+v) leaves %+v", f, next)
	}
	if next, ok := modelNext(now); ok {
		t.Fatalf("PilotAll(%+v) leaves %+v by the second reading", f, next)
	}
	if !sameFleet(now, end) || !impl.PilotValid(end) {
		t.Fatalf("PilotAll(%+v) is %+v, and its steps lead to %+v", f, end, now)
	}
	return steps
}

func checkPromise9(t *testing.T, ahead, behind impl.PilotFleet, s impl.PilotStep) {
	t.Helper()
	c, _ := modelCopy(ahead, s.Copy)
	for _, name := range s.Gone {
		if g, _ := modelCopy(ahead, name); g.Rank >= c.Rank {
			t.Fatalf("%q goes for %q: %+v", name, s.Copy, ahead)
		}
	}
	waitAhead, waitBehind := impl.PilotHarm(ahead, impl.PilotQueue(ahead)), impl.PilotHarm(behind, impl.PilotQueue(behind))
	if !impl.PilotLess(waitBehind, waitAhead) {
		t.Fatalf("ahead of %+v wait %v, behind it %v: %+v", s, waitAhead, waitBehind, ahead)
	}
}

func TestPromise8And9Random(t *testing.T) {
	t.Parallel()
	r := rand.New(rand.NewSource(31))
	placed, gone, again := 0, 0, 0
	for range 800 {
		f := tightFleet(r)
		stood := map[string]int{}
		for _, s := range checkPromise8And9(t, f) {
			placed++
			gone += len(s.Gone)
			if stood[s.Copy]++; stood[s.Copy] > 1 {
				again++
			}
		}
	}
	if placed < 1000 || gone < 300 || again < 5 {
		t.Errorf("%d steps, %d gone, %d twice: the fleets tell too little", placed, gone, again)
	}
}

// Berths that are alike: harms and scores are equal, and names decide.
func TestPromise8And9Even(t *testing.T) {
	t.Parallel()
	r := rand.New(rand.NewSource(32))
	for range 150 {
		f := tightFleet(r)
		for i := range f.Berths {
			f.Berths[i].Zone, f.Berths[i].Marks, f.Berths[i].Room, f.Berths[i].Hold = pickOf(r, "east", "west"), nil, 5, 5
		}
		for i := range f.Copies {
			c := &f.Copies[i]
			c.At, c.Rank, c.Room, c.Hold, c.Select, c.Likes = "", min(c.Rank, 2), 1+i%2, 1, "", nil
		}
		checkPromise8And9(t, randomlyStanding(r, f))
	}
}

// Steps of all kinds, right or not, are done just where the document says so.
func TestPilotDoRandom(t *testing.T) {
	t.Parallel()
	r := rand.New(rand.NewSource(33))
	done, not := 0, 0
	for range 3000 {
		f := tightFleet(r)
		if len(f.Copies) == 0 {
			continue
		}
		for range 4 {
			step := impl.PilotStep{Copy: pickOf(r, f.Copies...).Name, Berth: pickOf(r, f.Berths...).Name}
			for _, c := range f.Copies {
				if c.At == step.Berth && r.Intn(3) > 0 || r.Intn(60) == 0 {
					step.Gone = append(step.Gone, c.Name)
				}
			}
			got, ok := impl.PilotDo(f, step)
			want, wantOk := modelDo(f, step)
			if ok != wantOk || !sameFleet(got, want) {
				t.Fatalf("PilotDo(%+v, %+v) is %+v, %v, not %+v, %v", f, step, got, ok, want, wantOk)
			}
			if ok && !impl.PilotValid(got) {
				t.Fatalf("PilotDo(%+v, %+v) is not valid: %+v", f, step, got)
			}
			if ok && len(step.Gone) > 0 {
				done++
			} else if !ok {
				not++
			}
		}
	}
	if done < 300 || not < 300 {
		t.Errorf("%d done, %d not: the fleets tell too little", done, not)
	}
}

// inGoodTime holds that a call ends soon: all lists of ten copies on each berth for all that wait are far too many to be tried one by one.
func inGoodTime(t *testing.T, what string, call func()) {
	t.Helper()
	from := time.Now()
	call()
	if took := time.Since(from); took > 20*time.Second {
		t.Errorf("%s took %v", what, took)
	}
}

func TestPilotWholeGreatest(t *testing.T) {
	for _, c := range [][3]int{{1, 10, 50}, {2, 10, 40}, {3, 10, 30}, {4, 10, 20}, {5, 10, 10}, {12, 4, 12}, {12, 0, 60}, {6, 9, 6}} {
		f := greatFleet(c[0], c[1], c[2])
		if !impl.PilotValid(f) || len(f.Copies) != impl.PilotMaxCopies {
			t.Fatalf("%v: not valid", c)
		}
		for _, spare := range []int{1, 2, 5, 60} {
			for i := range f.Services {
				f.Services[i].Spare = spare
			}
			inGoodTime(t, "PilotAll", func() {
				end, steps := impl.PilotAll(f)
				if _, ok := impl.PilotNext(end); ok || !impl.PilotValid(end) {
					t.Errorf("%v: %d steps, and more is to be done", c, len(steps))
				}
			})
		}
	}
}

// All that could help is not enough by one: nothing may be tried for long, also if much may go.
func TestPilotVictimsGreatest(t *testing.T) {
	for n, room := range []int{900, 901, 999, 1000, 900, 1000} {
		f := greatFleet(1, 10, 50)
		ranks := []int{1, 3, 10}[n%3]
		for i := range f.Copies {
			c := &f.Copies[i]
			c.Service, c.Apart, c.Hold = "n000", 0, 0
			if c.At != "" {
				c.Rank, c.Room = i%ranks, 90+i%2
			} else {
				c.Rank, c.Room = 50, room
			}
		}
		for _, spare := range []int{50, 55, 59, 60} {
			f.Services[0].Spare = spare
			inGoodTime(t, "PilotVictims", func() {
				for _, c := range f.Copies {
					gone, ok := impl.PilotVictims(f, c.Name, "n000")
					if ok && (len(gone) > spare-50 || c.At != "") {
						t.Errorf("with %d to spare %q go", spare, gone)
					}
				}
			})
		}
	}
}

func TestPilotWholeNotValid(t *testing.T) {
	r := rand.New(rand.NewSource(34))
	met := 0
	for range 1500 {
		f := tightFleet(r)
		whole, ok := impl.PilotNext(f)
		breaks(r, &f)
		if modelFleetFault(f) == "" {
			continue
		}
		met++
		if step, ok := impl.PilotNext(f); ok || !sameStep(step, impl.PilotStep{}) {
			t.Fatalf("PilotNext(%+v) is %+v", f, step)
		}
		if end, steps := impl.PilotAll(f); len(steps) != 0 || !sameFleet(end, impl.PilotFleet{}) {
			t.Fatalf("PilotAll(%+v) is %+v and %+v", f, end, steps)
		}
		if !ok {
			continue
		}
		if end, ok := impl.PilotDo(f, whole); ok || !sameFleet(end, impl.PilotFleet{}) {
			t.Fatalf("PilotDo(%+v, %+v) is %+v", f, whole, end)
		}
	}
	if met < 300 {
		t.Errorf("%d fleets were not valid", met)
	}
}

func TestPilotWholeMemory(t *testing.T) {
	r := rand.New(rand.NewSource(35))
	marks, likes := []string{"ssd"}, []impl.PilotLike{{Select: "ssd", Weight: 1}}
	for i := range 400 {
		f := spared(tightFleet(r))
		if i%2 == 0 { // lists that are shared by the fleet itself
			for j := range f.Berths {
				f.Berths[j].Marks = marks
			}
			for j := range f.Copies {
				f.Copies[j].Likes = likes
			}
		}
		step, _ := impl.PilotNext(f)
		checkOwnMemory(t, []any{f}, []any{step})
		step.Gone = append(slices.Clone(step.Gone), "behind")[:len(step.Gone)]
		behind, _ := impl.PilotDo(f, step)
		checkOwnMemory(t, []any{f, step}, []any{behind})
		if step.Gone[:len(step.Gone)+1][len(step.Gone)] != "behind" {
			t.Fatalf("the step is %+v now", step)
		}
		end, steps := impl.PilotAll(f)
		checkOwnMemory(t, []any{f}, []any{end, steps})
		checkUnchanged(t, f, func(f impl.PilotFleet) {
			impl.PilotNext(f)
			impl.PilotDo(f, step)
			impl.PilotAll(f)
		})
	}
}

// What PilotAll starts has ended when it answers.
func TestPilotAllLeavesNothingBehind(t *testing.T) {
	r := rand.New(rand.NewSource(36))
	before := runtime.NumGoroutine()
	for range 300 {
		f := tightFleet(r)
		impl.PilotAll(f)
		breaks(r, &f)
		impl.PilotAll(f)
	}
	for range 100 {
		if runtime.NumGoroutine() <= before {
			return
		}
		time.Sleep(time.Millisecond)
	}
	t.Errorf("%d goroutines, and %d before", runtime.NumGoroutine(), before)
}

package tests

import (
	"fmt"
	"math"
	"math/rand"
	"slices"
	"strings"
	"testing"

	"loop.example/wharffleet/impl"
)

// A second reading of chapter 24, made another way than the program: what is not as it is wanted is told in words, service by service and copy by copy, and the five numbers are how often they are said.

// modelLeftToDo says all that keeps a valid book from being done, each with the place of its rank, or a minus where it is in none. Of one that is not valid it says nothing.
func modelLeftToDo(b impl.StewBook) []string {
	if len(modelBookFaults(b)) > 0 {
		return nil
	}
	var left []string
	say := func(what string, is bool) {
		if is {
			left = append(left, what)
		}
	}
	for _, s := range b.Services {
		live := 0
		for _, c := range b.Copies {
			if c.Service != s.Name {
				continue
			}
			say("1 ending or of one that is gone", c.Ending || s.Gone)
			if c.Ending {
				continue
			}
			live++
			drained := slices.Contains(b.Berths, impl.StewBerth{Name: c.Berth, Drain: true})
			say("3 old or to go", c.Image != s.Image || drained)
			say("4 not ready", c.State != 3)
		}
		say("0 gone", s.Gone)
		for n := live; n < s.Want && !s.Gone; n++ {
			say("2 missing", true)
		}
		for n := s.Want; n < live && !s.Gone; n++ {
			say("2 too many", true)
		}
		say("- want", s.Per > 0 && s.Want != modelDue(s))
		say("- cool", s.Cool > 0)
	}
	return left
}

func modelRank(b impl.StewBook) []int {
	rank := make([]int, 5)
	for _, what := range modelLeftToDo(b) {
		if what[0] != '-' {
			rank[what[0]-'0']++
		}
	}
	return rank
}

func modelDone(b impl.StewBook) bool {
	return len(modelBookFaults(b)) == 0 && len(modelLeftToDo(b)) == 0
}

// checkStewDone holds StewDone and StewRank against the second reading, and against what promises 27 and 28 say of each book.
func checkStewDone(t *testing.T, what string, b impl.StewBook) (bool, []int) {
	t.Helper()
	done, rank := impl.StewDone(b), impl.StewRank(b)
	if wanted, wantedRank := modelDone(b), modelRank(b); done != wanted || !slices.Equal(rank, wantedRank) {
		t.Errorf("%s: %v and %v, not %v and %v (%q): %+v", what, done, rank, wanted, wantedRank, modelSet(modelLeftToDo(b)), b)
		return done, rank
	}
	checkPromise27(t, what, b, done, rank)
	checkPromise28(t, what, b, done)
	return done, rank
}

// checkRank is for what can be told by hand: five numbers, with done behind them if the book is so.
func checkRank(t *testing.T, what string, b impl.StewBook, want string) {
	t.Helper()
	done, rank := checkStewDone(t, what, b)
	got := strings.Trim(fmt.Sprint(rank), "[]")
	if done {
		got += " done"
	}
	if got != want {
		t.Errorf("%s: %q, not %q", what, got, want)
	}
}

// doneBook is done: services with a load to follow and without, one of which none is wanted, and a berth that is to be drained, with nothing on it.
func doneBook() impl.StewBook {
	b := impl.StewBook{
		Now: 50,
		Services: []impl.StewService{
			{Name: "api", Version: 10, Image: 4, Want: 3, Down: 1, Over: 1, Next: 8},
			{Name: "db", Version: 20, Image: 7, Want: 2, Down: 2, Next: 10, Per: 10, Least: 1, Most: 5, Load: 15},
			{Name: "none", Version: 30, Image: 1, Over: 3, Next: 5},
		},
		Berths: []impl.StewBerth{{Name: "a"}, {Name: "b", Drain: true}, {Name: "c"}},
	}
	for i, berth := range []string{"a", "c", "a"} {
		b.Copies = append(b.Copies, impl.StewCopy{Service: "api", Number: 2*i + 1, Version: 11 + i, Image: 4, State: impl.StewReady, Berth: berth})
	}
	for i, berth := range []string{"c", "c"} {
		b.Copies = append(b.Copies, impl.StewCopy{Service: "db", Number: i + 7, Version: 21 + i, Image: 7, State: impl.StewReady, Berth: berth})
	}
	return b
}

func TestStewDone(t *testing.T) {
	checkRank(t, "nothing", impl.StewBook{}, "0 0 0 0 0 done")
	checkRank(t, "empty lists", impl.StewBook{Services: []impl.StewService{}, Copies: []impl.StewCopy{}, Berths: []impl.StewBerth{}}, "0 0 0 0 0 done")
	checkRank(t, "berths alone", impl.StewBook{Now: 3, Berths: []impl.StewBerth{{Name: "a"}, {Name: "b", Drain: true}}}, "0 0 0 0 0 done")
	checkRank(t, "done", doneBook(), "0 0 0 0 0 done")
	checkRank(t, "a full one", fullBook(), "1 3 9 4 3")
	checkRank(t, "one for acts", actBook(), "2 4 13 5 4")
	for _, now := range []int{50, 51, 999999, 1000000} {
		b := doneBook()
		b.Now = now
		checkRank(t, fmt.Sprint("at ", now), b, "0 0 0 0 0 done")
	}
}

// Each sentence of chapter 24 broken alone, of the first service and of one behind it.
func TestStewDoneEachSentence(t *testing.T) {
	for what, c := range map[string]struct {
		rank   string
		change func(b *impl.StewBook)
	}{
		"a service that is Gone, without copies": {"1 0 0 0 0", func(b *impl.StewBook) { b.Services[2].Gone = true }},
		"a service that is Gone, and wanted":     {"1 0 0 0 0", func(b *impl.StewBook) { b.Services[2].Gone, b.Services[2].Want = true, 10 }},
		"a service that is Gone, with copies":    {"1 3 0 0 0", func(b *impl.StewBook) { b.Services[0].Gone = true }},
		"two of them":                            {"2 3 0 0 0", func(b *impl.StewBook) { b.Services[0].Gone, b.Services[2].Gone = true, true }},
		"all":                                    {"3 5 0 0 0", func(b *impl.StewBook) { b.Services[0].Gone, b.Services[1].Gone, b.Services[2].Gone = true, true, true }},
		"one less":                               {"0 0 1 0 0", func(b *impl.StewBook) { b.Copies = slices.Delete(b.Copies, 1, 2) }},
		"one less of the last":                   {"0 0 1 0 0", func(b *impl.StewBook) { b.Copies = b.Copies[:4] }},
		"one more is wanted":                     {"0 0 1 0 0", func(b *impl.StewBook) { b.Services[0].Want++ }},
		"one less is wanted":                     {"0 0 1 0 0", func(b *impl.StewBook) { b.Services[0].Want-- }},
		"some are wanted where none are":         {"0 0 4 0 0", func(b *impl.StewBook) { b.Services[2].Want = 4 }},
		"none are wanted where some are":         {"0 0 3 0 0", func(b *impl.StewBook) { b.Services[0].Want = 0 }},
		"no copies at all":                       {"0 0 5 0 0", func(b *impl.StewBook) { b.Copies = nil }},
		"below and above together":               {"0 0 5 0 0", func(b *impl.StewBook) { b.Services[0].Want, b.Services[2].Want = 1, 3 }},
		"of an older image":                      {"0 0 0 1 0", func(b *impl.StewBook) { b.Copies[0].Image = 3 }},
		"of a newer image":                       {"0 0 0 1 0", func(b *impl.StewBook) { b.Copies[4].Image = 8 }},
		"another image is wanted":                {"0 0 0 3 0", func(b *impl.StewBook) { b.Services[0].Image = 5 }},
		"one waits":                              {"0 0 0 0 1", func(b *impl.StewBook) { b.Copies[0].State, b.Copies[0].Berth = impl.StewWaiting, "" }},
		"one starts":                             {"0 0 0 0 1", func(b *impl.StewBook) { b.Copies[1].State = impl.StewStarting }},
		"one has failed":                         {"0 0 0 0 1", func(b *impl.StewBook) { b.Copies[4].State = impl.StewFailed }},
		"on a berth that is to be drained":       {"0 0 0 1 0", func(b *impl.StewBook) { b.Copies[3].Berth = "b" }},
		"a berth comes to be drained":            {"0 0 0 3 0", func(b *impl.StewBook) { b.Berths[2].Drain = true }},
		"all berths come to be drained":          {"0 0 0 5 0", func(b *impl.StewBook) { b.Berths[0].Drain, b.Berths[2].Drain = true, true }},
		"old and on such a berth counts once":    {"0 0 0 1 0", func(b *impl.StewBook) { b.Copies[0].Image, b.Copies[0].Berth = 3, "b" }},
		"old, and starts":                        {"0 0 0 1 1", func(b *impl.StewBook) { b.Copies[0].Image, b.Copies[0].State = 3, impl.StewStarting }},
		"one more that is Ending": {"0 1 0 0 0", func(b *impl.StewBook) {
			b.Copies = append(b.Copies, b.Copies[4])
			b.Copies[5].Number, b.Copies[5].Ending = 9, true
		}},
		"one that is Ending is missing": {"0 1 1 0 0", func(b *impl.StewBook) { b.Copies[0].Ending = true }},
		"one that is Ending, old and failed": {"0 1 1 0 0", func(b *impl.StewBook) {
			c := &b.Copies[0]
			c.Ending, c.Image, c.State, c.Berth = true, 1, impl.StewFailed, "b"
		}},
		"all are Ending": {"0 5 5 0 0", func(b *impl.StewBook) { endAll(b) }},
		"all are Ending, of services that go": {"3 5 0 0 0", func(b *impl.StewBook) {
			endAll(b)
			b.Services[0].Gone, b.Services[1].Gone, b.Services[2].Gone = true, true, true
		}},
		"Live and Ending ones of one that is gone": {"1 3 0 0 0", func(b *impl.StewBook) { b.Services[0].Gone, b.Copies[1].Ending = true, true }},
		"of one that is gone, old and not ready": {"1 3 0 2 1", func(b *impl.StewBook) {
			b.Services[0].Gone = true
			b.Copies[0].Image, b.Copies[1].Berth, b.Copies[2].State = 3, "b", impl.StewFailed
		}},
		"more load than is borne":          {"0 0 0 0 0", func(b *impl.StewBook) { b.Services[1].Load = 21 }},
		"less load than is borne":          {"0 0 0 0 0", func(b *impl.StewBook) { b.Services[1].Load = 10 }},
		"at least more":                    {"0 0 0 0 0", func(b *impl.StewBook) { b.Services[1].Least = 3 }},
		"at most less":                     {"0 0 0 0 0", func(b *impl.StewBook) { b.Services[1].Most = 1 }},
		"some cool":                        {"0 0 0 0 0", func(b *impl.StewBook) { b.Services[1].Cool = 1 }},
		"as much cool as can be":           {"0 0 0 0 0", func(b *impl.StewBook) { b.Services[1].Cool = 3 }},
		"a load, and none is wanted of it": {"0 0 0 0 0", func(b *impl.StewBook) { s := &b.Services[2]; s.Per, s.Most, s.Load = 5, 5, 1 }},
		"all at once":                      {"1 4 1 3 2", allAtOnce},
	} {
		b := doneBook()
		c.change(&b)
		checkValidBook(t, what, b, "")
		checkRank(t, what, b, c.rank)
	}
}

func endAll(b *impl.StewBook) {
	for i := range b.Copies {
		b.Copies[i].Ending = true
	}
}

// allAtOnce leaves something of each to do.
func allAtOnce(b *impl.StewBook) {
	b.Services[0].Gone, b.Services[1].Cool = true, 1
	b.Copies[0].Image, b.Copies[1].Berth, b.Copies[1].State = 9, "b", impl.StewStarting
	b.Copies[3].Ending = true
	b.Copies[4].Image, b.Copies[4].State = 9, impl.StewFailed
}

// What may be other in a book that is done.
func TestStewDoneAllTheSame(t *testing.T) {
	for what, change := range map[string]func(b *impl.StewBook){
		"a berth more that is to be drained": func(b *impl.StewBook) { b.Berths = append(b.Berths, impl.StewBerth{Name: "d", Drain: true}) },
		"all on one berth":                   func(b *impl.StewBook) { b.Copies[0].Berth, b.Copies[2].Berth = "c", "c" },
		"other versions":                     func(b *impl.StewBook) { b.Services[0].Version, b.Copies[0].Version = 50, 1 },
		"other numbers":                      func(b *impl.StewBook) { b.Services[0].Next, b.Copies[2].Number = 1000000, 999999 },
		"other spares":                       func(b *impl.StewBook) { b.Services[0].Down, b.Services[0].Over = 0, 10 },
		"a load that is just borne":          func(b *impl.StewBook) { b.Services[1].Load = 20 },
		"the least such load":                func(b *impl.StewBook) { b.Services[1].Load = 11 },
		"no load, by Least":                  func(b *impl.StewBook) { b.Services[1].Load, b.Services[1].Least = 0, 2 },
		"more load than can be, by Most":     func(b *impl.StewBook) { b.Services[1].Load, b.Services[1].Most = 1000000, 2 },
		"Least and Most alike":               func(b *impl.StewBook) { b.Services[1].Least, b.Services[1].Most = 2, 2 },
		"no service":                         func(b *impl.StewBook) { b.Services, b.Copies = nil, nil },
		"one service less":                   func(b *impl.StewBook) { b.Services = b.Services[:2] },
		"a service without load, none due": func(b *impl.StewBook) {
			s := &b.Services[2]
			s.Per, s.Most = 5, 5
		},
	} {
		b := doneBook()
		change(&b)
		checkValidBook(t, what, b, "")
		checkRank(t, what, b, "0 0 0 0 0 done")
	}
}

// Want is the D of chapter 22: Load / Per, rounded up, from Least to Most.
func TestStewDoneFollowsLoad(t *testing.T) {
	for _, per := range []int{1, 2, 3, 10, 999999, 1000000} {
		for _, bounds := range [][2]int{{0, 0}, {0, 3}, {1, 4}, {2, 2}, {3, 10}, {10, 10}} {
			for _, load := range []int{0, 1, 2, 3, 4, 9, 10, 11, 20, 21, 30, 999998, 999999, 1000000} {
				due := min(bounds[1], max(bounds[0], (load+per-1)/per))
				for want := range 11 {
					for cool := range 4 {
						b := crewBook(want, 1, 1, slices.Repeat([]string{"r"}, want)...)
						s := &b.Services[0]
						s.Per, s.Least, s.Most, s.Load, s.Cool = per, bounds[0], bounds[1], load, cool
						if got := impl.StewDone(b); got != (want == due && cool == 0) {
							t.Fatalf("per %d, from %d to %d, load %d, want %d, cool %d: %v", per, bounds[0], bounds[1], load, want, cool, got)
						}
						if want == due || want == due+1 {
							checkRank(t, "load", b, map[bool]string{true: "0 0 0 0 0 done", false: "0 0 0 0 0"}[want == due && cool == 0])
						}
					}
				}
			}
		}
	}
}

// Live below and above Want, of each service alone, and of several together: what is missing of one is not made up for by what another has too much.
func TestStewRankCounts(t *testing.T) {
	for want := range 11 {
		for live := range 13 {
			b := crewBook(want, 1, 1, append(slices.Repeat([]string{"r"}, live), "re", "fe")...)
			checkRank(t, fmt.Sprintf("want %d, live %d", want, live), b, fmt.Sprintf("0 2 %d 0 0", max(want-live, live-want)))
			b.Services[0].Gone = true
			checkRank(t, fmt.Sprintf("gone, live %d", live), b, fmt.Sprintf("1 %d 0 0 0", live+2))
		}
	}
	for off := range 243 {
		b := manyServices(crewBook(2, 1, 1, "r", "r"))
		sum, rest := 0, off
		for i := range 5 {
			sum += max(rest%3-1, 1-rest%3)
			b.Services[i].Want = 1 + rest%3
			rest /= 3
		}
		checkRank(t, "several", b, map[bool]string{true: "0 0 0 0 0 done", false: fmt.Sprintf("0 0 %d 0 0", sum)}[sum == 0])
	}
}

// A copy of each kind alone: of which of the five numbers it is.
func TestStewRankOfEachCopy(t *testing.T) {
	for state, letter := range map[int]string{1: "w", 2: "s", 3: "r", 4: "f"} {
		for kind := range 16 {
			letters := letter
			old, drained, ending, gone := kind&1 > 0, kind&2 > 0, kind&4 > 0, kind&8 > 0
			for _, mark := range []struct {
				is   bool
				name string
			}{{old, "o"}, {drained, "d"}, {ending, "e"}} {
				if mark.is {
					letters += mark.name
				}
			}
			b := crewBook(1, 1, 1, letters)
			b.Services[0].Gone = gone
			one := map[bool]int{true: 1}
			want := []int{one[gone], one[gone || ending], one[!gone && ending], one[!ending && (old || drained && state != 1)], one[!ending && state != 3]}
			text := strings.Trim(fmt.Sprint(want), "[]")
			if letters == "r" && !gone {
				text += " done"
			}
			checkRank(t, fmt.Sprintf("%s, gone %v", letters, gone), b, text)
		}
	}
}

func TestStewDoneNotValid(t *testing.T) {
	check := func(what string, b impl.StewBook) {
		t.Helper()
		if got := impl.StewRank(b); impl.StewDone(b) || len(got) != 5 || slices.Max(got) != 0 || slices.Min(got) != 0 {
			t.Errorf("%s: %v, %v", what, impl.StewDone(b), got)
		}
	}
	for what, b := range brokenBooks() {
		check(what, b)
	}
	for _, c := range bookNumbers() {
		for _, n := range []int{math.MinInt, c.least - 1, c.most + 1, math.MaxInt} {
			b := fullBook()
			*c.of(&b) = n
			check(fmt.Sprint(c.what, " ", n), b)
		}
	}
	for what, b := range map[string]impl.StewBook{"services": greatBook(9, 200, 6), "copies": greatBook(8, 201, 6), "berths": greatBook(8, 200, 7)} {
		check("too many "+what, b)
	}
	// Books that would be done, if they were valid.
	for what, change := range map[string]func(b *impl.StewBook){
		"now":              func(b *impl.StewBook) { b.Now = 1000001 },
		"a version":        func(b *impl.StewBook) { b.Services[0].Version = 51 },
		"a copy's version": func(b *impl.StewBook) { b.Copies[0].Version = 0 },
		"a berth's name":   func(b *impl.StewBook) { b.Berths = append(b.Berths, impl.StewBerth{Name: "d_"}) },
		"the order":        func(b *impl.StewBook) { b.Copies[0], b.Copies[1] = b.Copies[1], b.Copies[0] },
		"spares":           func(b *impl.StewBook) { b.Services[2].Over = 0 },
		"a number":         func(b *impl.StewBook) { b.Services[1].Next = 8 },
		"cool without per": func(b *impl.StewBook) { b.Services[0].Cool = 1 },
		"more berths":      func(b *impl.StewBook) { b.Berths = append(b.Berths, seaBook("d e f g", "").Berths...) },
	} {
		b := doneBook()
		change(&b)
		if len(modelBookFaults(b)) == 0 {
			t.Errorf("%s: it is valid", what)
		}
		check(what, b)
	}
	inGoodTime(t, "what is far too long", func() {
		b := fullBook()
		b.Copies = slices.Repeat(b.Copies, 20000)
		check("copies", b)
		b = fullBook()
		b.Services[0].Name = strings.Repeat("a", 10000000)
		check("a name", b)
	})
}

func TestStewRankGreat(t *testing.T) {
	b := greatBook(8, 200, 6)
	checkRank(t, "a great book", b, "0 0 120 200 200")
	for i := range b.Services {
		b.Services[i].Gone = true
	}
	checkRank(t, "all are gone", b, "8 200 0 200 200")
	endAll(&b)
	checkRank(t, "all are Ending", b, "8 200 0 0 0")
	for i := range b.Services {
		b.Services[i].Gone = false
	}
	checkRank(t, "all are Ending, of services that are wanted", b, "0 200 80 0 0")
	// As many copies as can be wanted, and all is done.
	b = impl.StewBook{Now: 1000000, Services: servicesCalled("a", "b", "c", "d", "e", "f", "g", "h"), Berths: seaBook("x- y", "").Berths}
	for i := range b.Services {
		b.Services[i].Want = 10
		for n := range 10 {
			b.Copies = append(b.Copies, impl.StewCopy{Service: b.Services[i].Name, Number: 99 + n, Version: 1000000, Image: 1, State: impl.StewReady, Berth: "y"})
		}
	}
	checkRank(t, "as many as can be", b, "0 0 0 0 0 done")
}

// The greatest and the least int as every number of a book, and as all of them.
func TestStewDoneFarthestNumbers(t *testing.T) {
	for _, n := range []int{math.MinInt, math.MinInt + 1, -1, 0, 1, 1000000, 1000001, math.MaxInt - 1, math.MaxInt} {
		for _, base := range []func() impl.StewBook{fullBook, doneBook} {
			whole := base()
			for _, number := range numbersOf(&whole) {
				number.SetInt(int64(n))
			}
			checkStewDone(t, fmt.Sprint("all are ", n), whole)
			for i := range numbersOf(&whole) {
				b := base()
				numbersOf(&b)[i].SetInt(int64(n))
				checkStewDone(t, fmt.Sprintf("number %d is %d", i, n), b)
			}
		}
	}
}

// The book is as it was, also behind its ends; what comes back shares no memory with it, nor with another answer.
func TestStewDoneMemory(t *testing.T) {
	r := rand.New(rand.NewSource(241))
	check := func(b impl.StewBook) {
		t.Helper()
		checkBookUnchanged(t, b, func(b impl.StewBook) {
			done, rank := impl.StewDone(b), impl.StewRank(b)
			again := impl.StewRank(b)
			checkOwnMemory(t, []any{b}, []any{rank, again})
			for i := range again {
				again[i] = -7
			}
			if alone := cloneBook(b); impl.StewDone(alone) != done || !slices.Equal(impl.StewRank(alone), rank) {
				t.Errorf("what stands behind is asked: %+v", b)
			}
		})
	}
	for _, b := range []impl.StewBook{{}, fullBook(), doneBook(), actBook(), greatBook(8, 200, 6), greatBook(8, 201, 6)} {
		check(b)
	}
	for i := range 500 {
		b := randomDoneBook(r)
		if i%3 == 0 {
			b = stewardsBook(r)
		}
		if i%10 == 0 {
			breakBook(r, &b)
		}
		check(b)
	}
}

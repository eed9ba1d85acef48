package tests

import (
	"fmt"
	"math/rand"
	"slices"
	"strings"
	"testing"

	"loop.example/wharffleet/impl"
)

// nearlyFull is a valid fleet in which there is just room for a few more: of copies, on berths, or of Room and Hold.
func nearlyFull(r *rand.Rand) impl.FleetWorld {
	w := emptyWharf([]string{"a", "b", "c", "d"}[:2+r.Intn(3)]...)
	n := pickOf(r, 8, 9, 10) * len(w.Berths)
	services := []string{"db", "web", "x"}[:1+r.Intn(3)]
	waiting := r.Intn(60 - min(59, n) + 1)
	number := 0
	for i, s := range services {
		var words []string
		for j := range n {
			number++
			if j%len(services) == i && r.Intn(12) > 0 {
				words = append(words, fmt.Sprintf("%d%s@%s:%d", number, pickOf(r, "", "", "", "", "", "e"), w.Berths[j%len(w.Berths)].Name, j))
			}
		}
		for range waiting / len(services) {
			number++
			words = append(words, fmt.Sprint(number))
		}
		w = withService(w, impl.FleetKind{Service: s, Rank: r.Intn(2), Room: 1 + r.Intn(3), Hold: 1, Volume: r.Intn(2) == 0}, strings.Join(words, " "))
	}
	f := modelShown(w)
	for i, b := range w.Berths {
		if room, hold := modelUsed(f, b.Name); r.Intn(2) == 0 {
			w.Berths[i].Room, w.Berths[i].Hold = room+r.Intn(4), hold+r.Intn(3)
		}
	}
	w.Stew.Now = pickOf(r, 5, 70, 999999, 1000000)
	w.Mates.Land.Places = randomlyTold(r, w)
	return w
}

// checkPromise34OfPlace holds the first half of promise 34, by the words of the promise: what was placed is not moved, and what PilotPlace places is.
func checkPromise34OfPlace(t *testing.T, w impl.FleetWorld) (impl.FleetWorld, int) {
	t.Helper()
	next := impl.FleetPlace(w)
	if !impl.FleetValid(next) {
		t.Fatalf("FleetPlace gives what is not valid: %+v of %+v", next, w)
	}
	after, steps := impl.PilotPlace(impl.FleetPilot(w))
	if w.Stew.Now == impl.StewMaxNumber {
		steps = nil
	}
	to := map[string]string{}
	for _, s := range steps {
		to[s.Copy] = s.Berth
	}
	for i, was := range w.Stew.Copies {
		is, name := next.Stew.Copies[i], impl.FleetCopyName(was.Service, was.Number)
		want := was
		if berth, placed := to[name]; placed {
			want.Berth, want.State, want.Version = berth, impl.StewStarting, w.Stew.Now+1
			if was.Berth != "" || was.Ending {
				t.Fatalf("%s did not wait: %+v", name, was)
			}
		}
		if is != want {
			t.Fatalf("%s is %+v, not %+v", name, is, want)
		}
	}
	for _, s := range w.Slots {
		if !slices.Contains(next.Slots, s) {
			t.Fatalf("the slot %+v is another one: %+v", s, next.Slots)
		}
	}
	if len(next.Slots) != len(w.Slots)+len(steps) || len(next.Stew.Copies) != len(w.Stew.Copies) {
		t.Fatalf("%d steps, %d slots, and %d before", len(steps), len(next.Slots), len(w.Slots))
	}
	if len(steps) > 0 && !sameFleet(impl.FleetPilot(next), after) {
		t.Fatalf("the pilot sees %+v behind it, and left %+v", impl.FleetPilot(next), after)
	}
	if again := impl.FleetPlace(next); !sameWharf(again, next) {
		t.Fatalf("placed again: %s, and before %s", placedIn(again), placedIn(next))
	}
	return next, len(steps)
}

// checkPromise34OfTell holds its second half: each place wants just what its berth is to run, unless it can't be told, by MatePut's code, even now.
func checkPromise34OfTell(t *testing.T, w impl.FleetWorld) (told, refused int) {
	t.Helper()
	next := impl.FleetTell(w)
	if !impl.FleetValid(next) {
		t.Fatalf("FleetTell gives what is not valid: %+v of %+v", next, w)
	}
	for _, b := range w.Berths {
		wants := impl.FleetWants(next, b.Name)
		if !slices.Equal(wants, impl.FleetWants(w, b.Name)) {
			t.Fatalf("%s is to run something else behind it: %+v", b.Name, wants)
		}
		if slices.Equal(placeOf(next, b.Name).Wants, wants) {
			told++
			continue
		}
		refused++
		if _, code := impl.MatePut(next.Mates.Land, b.Name, wants); code == 0 {
			t.Fatalf("%s could be told %+v, and was not: %+v", b.Name, wants, w)
		}
	}
	return told, refused
}

func TestPromise34(t *testing.T) {
	t.Parallel()
	r := rand.New(rand.NewSource(282))
	met := map[string]int{}
	for i := range 3000 {
		w := randomWharf(r)
		if i%3 == 0 {
			w = nearlyFull(r)
		}
		if !impl.FleetValid(w) {
			t.Fatalf("it is not valid, %q: %+v", modelWharfFaults(w), w)
		}
		next, steps := checkPromise34OfPlace(t, w)
		met[fmt.Sprint("steps ", min(4, steps))]++
		for _, f := range []impl.FleetWorld{w, next} {
			told, refused := checkPromise34OfTell(t, f)
			met["told"] += told
			met["refused"] += refused
			if refused == 0 {
				met["all told"]++
			}
		}
		if _, refused := checkPromise34OfTell(t, impl.FleetTell(next)); refused == 0 {
			met["placed and told"]++
		}
		if i%3 == 0 && impl.PilotValid(impl.FleetPilot(w)) {
			met["nearly full"]++
			if len(impl.PilotQueue(impl.FleetPilot(next))) > 0 && steps > 0 {
				met["full behind it"]++
			}
		}
	}
	for what, least := range map[string]int{"steps 0": 200, "steps 1": 100, "steps 2": 50, "steps 3": 50, "steps 4": 200, "told": 3000, "refused": 200, "all told": 1000, "placed and told": 500, "nearly full": 500, "full behind it": 100} {
		if met[what] < least {
			t.Errorf("the fleets tell too little of %q: %v", what, met)
		}
	}
}

// What these chapters bear of promise 33: a valid fleet stays so, whatever is placed and told, again and again, while time goes by and copies come and go.
func TestPromise33OfPlacingAndTelling(t *testing.T) {
	t.Parallel()
	r := rand.New(rand.NewSource(283))
	placed := 0
	for range 150 {
		w := randomWharf(r)
		for w.Stew.Now > 900000 {
			w = randomWharf(r)
		}
		for range 12 {
			for _, kind := range []int{impl.StewCounter, impl.StewWaver, impl.StewMender} {
				for _, a := range impl.StewAsk(kind, w.Stew) {
					w.Stew, _ = impl.StewApply(w.Stew, a)
				}
			}
			w.Slots = slices.DeleteFunc(slices.Clone(w.Slots), func(s impl.FleetSlot) bool {
				return !slices.ContainsFunc(w.Stew.Copies, func(c impl.StewCopy) bool {
					return c.Service == s.Service && c.Number == s.Number && !c.Ending && c.Berth != ""
				})
			})
			if len(modelWharfFaults(w)) > 0 {
				t.Fatalf("the tale is none, %q: %+v", modelWharfFaults(w), w)
			}
			next := impl.FleetPlace(w)
			placed += len(next.Slots) - len(w.Slots)
			w = impl.FleetTell(next)
			if faults := modelWharfFaults(w); !impl.FleetValid(next) || !impl.FleetValid(w) || len(faults) > 0 {
				t.Fatalf("%q: %+v", faults, w)
			}
			w.Mates = impl.MateDo(w.Mates, impl.MateEvent{Kind: impl.MateEvTick})
		}
	}
	if placed < 300 {
		t.Errorf("%d are placed: the tales tell too little", placed)
	}
}

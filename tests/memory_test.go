package tests

import (
	"reflect"
	"testing"
)

// memorySpan is what a list takes up, the room behind its end included.
type memorySpan struct{ from, to uintptr }

// spansOf are those of all lists in a value that have any memory.
func spansOf(v reflect.Value) []memorySpan {
	var spans []memorySpan
	switch v.Kind() {
	case reflect.Struct:
		for i := range v.NumField() {
			spans = append(spans, spansOf(v.Field(i))...)
		}
	case reflect.Array, reflect.Slice:
		if v.Kind() == reflect.Slice && v.Cap() > 0 {
			spans = append(spans, memorySpan{v.Pointer(), v.Pointer() + uintptr(v.Cap())*v.Type().Elem().Size()})
		}
		for i := range v.Len() {
			spans = append(spans, spansOf(v.Index(i))...)
		}
	}
	return spans
}

// checkOwnMemory holds that no list of an answer shares memory with one of the arguments or with another one of the answer. Both are lists of values, so that several of each can be told.
func checkOwnMemory(t *testing.T, arguments, answers []any) {
	t.Helper()
	var others, own []memorySpan
	for _, a := range arguments {
		others = append(others, spansOf(reflect.ValueOf(a))...)
	}
	for _, a := range answers {
		own = append(own, spansOf(reflect.ValueOf(a))...)
	}
	for i, s := range own {
		for _, o := range append(others, own[:i]...) {
			if s.from < o.to && o.from < s.to {
				t.Errorf("lists share memory: %+v of %+v", answers, arguments)
				return
			}
		}
	}
}

func TestCheckOwnMemorySeesWhatIsShared(t *testing.T) {
	list := make([]int, 4, 8)
	for what, shares := range map[string][2]any{
		"the whole":            {list, list},
		"what is behind":       {list[:2], list[4:6]},
		"a list in a struct":   {struct{ l []int }{list}, list},
		"a list in a list":     {[][]int{list}, list[1:2:2]},
		"two lists of answers": {nil, [][]int{list[:2:2], list[1:3:3]}},
	} {
		probe := &testing.T{}
		checkOwnMemory(probe, []any{shares[0]}, []any{shares[1]})
		if !probe.Failed() {
			t.Errorf("%s: it is not seen", what)
		}
	}
	checkOwnMemory(t, []any{list[:2:2]}, []any{[][]int{list[2:4:4], list[4:], nil, list[:0:0]}})
}

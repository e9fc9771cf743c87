package tests

import (
	"cmp"
	"reflect"
	"slices"
	"testing"
)

// span is the memory of a list, what is behind its end with it.
type span struct {
	from, to uintptr
	where    string
}

func spansOf(v reflect.Value, where string) []span {
	var out []span
	switch v.Kind() {
	case reflect.Interface:
		return spansOf(v.Elem(), where)
	case reflect.Slice:
		if bytes := uintptr(v.Cap()) * v.Type().Elem().Size(); bytes > 0 {
			out = append(out, span{v.Pointer(), v.Pointer() + bytes, where})
		}
		for i := range v.Len() {
			out = append(out, spansOf(v.Index(i), where+"[]")...)
		}
	case reflect.Struct:
		for i := range v.NumField() {
			out = append(out, spansOf(v.Field(i), where+"."+v.Type().Field(i).Name)...)
		}
	}
	return out
}

// wantApart asks that no two lists of the answer share memory, and none with a list of an argument.
func wantApart(t *testing.T, what string, answer any, arguments ...any) {
	t.Helper()
	mine := spansOf(reflect.ValueOf(answer), "answer")
	slices.SortFunc(mine, func(a, b span) int { return cmp.Compare(a.from, b.from) })
	for i := 1; i < len(mine); i++ {
		if mine[i].from < mine[i-1].to {
			t.Fatalf("%s: two lists of the answer share memory: %s and %s", what, mine[i-1].where, mine[i].where)
		}
	}
	for _, x := range arguments {
		for _, theirs := range spansOf(reflect.ValueOf(x), "argument") {
			for _, m := range mine {
				if m.from < theirs.to && theirs.from < m.to {
					t.Fatalf("%s: %s shares memory with %s", what, m.where, theirs.where)
				}
			}
		}
	}
}

func TestWantApartSees(t *testing.T) {
	list := make([]int, 4)
	type pair struct{ A, B []int }
	got := spansOf(reflect.ValueOf([]pair{{A: list[:1:1], B: list[2:2:3]}, {}}), "x")
	size := reflect.TypeOf(0).Size()
	if len(got) != 3 || got[1].to-got[1].from != size || got[2].to-got[2].from != size || got[2].from != got[1].from+2*size {
		t.Errorf("the spans of lists in structs in a list: %v", got)
	}
}

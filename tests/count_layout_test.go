package tests

import (
	"reflect"
	"slices"
	"strconv"
	"testing"

	"loop.example/signalbox/impl"
)

func counter(from, to int) impl.Counter { return impl.Counter{From: from, To: to} }

func layout(sections int, counters ...impl.Counter) impl.Layout {
	return impl.Layout{Sections: sections, Counters: counters}
}

// street has four sections and six counters: 0, 1 and 2 one behind the other, 0 and 1 with two counters between them, outside at both its ends; 3 by itself, with no counter.
func street() impl.Layout {
	return layout(4, counter(-1, 0), counter(0, 1), counter(2, 1), counter(2, -1), counter(1, 0), counter(-1, 2))
}

// fence is so many counters, all between section 0 and outside, the one way round and the other by turns.
func fence(sections, counters int) impl.Layout {
	l := layout(sections)
	for k := range counters {
		if k%2 == 0 {
			l.Counters = append(l.Counters, counter(-1, 0))
		} else {
			l.Counters = append(l.Counters, counter(0, -1))
		}
	}
	return l
}

// wrongLayouts are some of all kinds that are not right.
func wrongLayouts() []impl.Layout {
	return []impl.Layout{
		{},
		layout(0),
		layout(0, counter(-1, 0)),
		layout(-1),
		layout(61),
		layout(farAbove),
		layout(farBelow, counter(0, 1)),
		fence(2, 121),
		layout(2, counter(0, 0)),
		layout(2, counter(-1, -1)),
		layout(2, counter(0, 2)),
		layout(2, counter(0, 1), counter(-2, 0)),
		layout(2, counter(0, 1), counter(1, farAbove)),
		layout(1, counter(0, 1)),
	}
}

func wantLayout(t *testing.T, what string, l impl.Layout, want int) {
	t.Helper()
	if got := impl.LayoutOk(l); got != want {
		t.Errorf("%s: LayoutOk is %d, not %d", what, got, want)
	}
}

func TestLayoutRight(t *testing.T) {
	wantLayout(t, "a street", street(), 0)
	wantLayout(t, "one section, no counters", layout(1), 0)
	wantLayout(t, "one section, an empty list", impl.Layout{Sections: 1, Counters: []impl.Counter{}}, 0)
	wantLayout(t, "from outside", layout(1, counter(-1, 0)), 0)
	wantLayout(t, "to outside", layout(1, counter(0, -1)), 0)
	wantLayout(t, "both ways round", layout(1, counter(0, -1), counter(-1, 0)), 0)
	wantLayout(t, "two that are the same", layout(2, counter(0, 1), counter(0, 1)), 0)
	wantLayout(t, "between the first and the last", layout(60, counter(0, 59), counter(59, 0), counter(59, -1), counter(-1, 59)), 0)
}

func TestLayoutHowMany(t *testing.T) {
	for _, x := range []int{1, 2, 59, 60} {
		wantLayout(t, "Sections "+strconv.Itoa(x), layout(x), 0)
		wantLayout(t, "Sections with a counter "+strconv.Itoa(x), layout(x, counter(-1, x-1)), 0)
	}
	for _, x := range []int{farBelow, farBelow + 1, -60, -1, 0, 61, 62, 120, 1<<32 + 1, farAbove - 1, farAbove} {
		wantLayout(t, "Sections "+strconv.Itoa(x), layout(x), 1)
		wantLayout(t, "Sections with a counter "+strconv.Itoa(x), layout(x, counter(-1, 0)), 1)
	}
	for _, x := range []int{0, 1, 119, 120} {
		wantLayout(t, "so many counters: "+strconv.Itoa(x), fence(1, x), 0)
		wantLayout(t, "so many counters of 60 sections: "+strconv.Itoa(x), fence(60, x), 0)
	}
	for _, x := range []int{121, 122, 1000} {
		wantLayout(t, "so many counters: "+strconv.Itoa(x), fence(1, x), 1)
		wantLayout(t, "so many counters of 60 sections: "+strconv.Itoa(x), fence(60, x), 1)
	}
}

func TestLayoutSides(t *testing.T) {
	for _, sections := range []int{1, 2, 7, 60} {
		for _, at := range []int{0, 3, 7} {
			put := func(c impl.Counter) impl.Layout {
				l := fence(sections, 8)
				l.Counters[at] = c
				return l
			}
			for x := -1; x < sections; x++ {
				other := 0
				if x == 0 {
					other = -1
				}
				what := strconv.Itoa(x) + " of " + strconv.Itoa(sections)
				wantLayout(t, "From "+what, put(counter(x, other)), 0)
				wantLayout(t, "To "+what, put(counter(other, x)), 0)
				wantLayout(t, "From and To "+what, put(counter(x, x)), 2)
			}
			for _, x := range []int{farBelow, farBelow + 1, -1 << 32, -60, -2, sections, sections + 1, 61, 1 << 32, farAbove - 1, farAbove} {
				what := strconv.Itoa(x) + " of " + strconv.Itoa(sections)
				for _, other := range []int{-1, 0, sections - 1, x} {
					wantLayout(t, "From "+what, put(counter(x, other)), 2)
					wantLayout(t, "To "+what, put(counter(other, x)), 2)
				}
			}
		}
	}
}

func TestLayoutOrderOfFaults(t *testing.T) {
	wrong := counter(5, 5)
	wantLayout(t, "120 counters, the last one wrong", layout(1, append(fence(1, 119).Counters, wrong)...), 2)
	wantLayout(t, "121 counters, the last one wrong", layout(1, append(fence(1, 120).Counters, wrong)...), 1)
	wantLayout(t, "121 counters, the first one wrong", layout(1, append([]impl.Counter{wrong}, fence(1, 120).Counters...)...), 1)
	wantLayout(t, "60 sections, a wrong counter", layout(60, wrong), 2)
	wantLayout(t, "61 sections, a wrong counter", layout(61, wrong), 1)
	wantLayout(t, "no sections, a wrong counter", layout(0, wrong), 1)
	wantLayout(t, "no sections, too many counters", fence(0, 121), 1)
}

func wantAround(t *testing.T, what string, l impl.Layout, section int, want ...int) {
	t.Helper()
	if got := impl.Around(l, section); !slices.Equal(got, want) {
		t.Errorf("%s: Around %d is %v, not %v", what, section, got, want)
	}
}

func TestAround(t *testing.T) {
	l := street()
	wantAround(t, "a street", l, 0, 0, 1, 4)
	wantAround(t, "a street", l, 1, 1, 2, 4)
	wantAround(t, "a street", l, 2, 2, 3, 5)
	wantAround(t, "no counters", l, 3)
	for _, section := range []int{farBelow, -4, -2, -1, 4, 5, 6, 60, 128, farAbove} {
		wantAround(t, "no such section", l, section)
	}
	wantAround(t, "the same counter twice", layout(2, counter(0, 1), counter(0, 1)), 1, 0, 1)
	wantAround(t, "no counters at all", layout(1), 0)
	wantAround(t, "outside alone", layout(2, counter(-1, 0)), -1)
}

func TestAroundMany(t *testing.T) {
	var all []int
	for k := range 120 {
		all = append(all, k)
	}
	wantAround(t, "all of 120", fence(60, 120), 0, all...)
	wantAround(t, "none of 120", fence(60, 120), 59)
	for k := range 120 {
		l := fence(60, 120)
		l.Counters[k] = counter(59, 58)
		wantAround(t, "one of 120, From", l, 59, k)
		wantAround(t, "one of 120, To", l, 58, k)
		wantAround(t, "all others", l, 0, slices.Delete(slices.Clone(all), k, k+1)...)
	}
}

func TestAroundOfNoLayout(t *testing.T) {
	for i, l := range wrongLayouts() {
		if impl.LayoutOk(l) == 0 {
			t.Fatalf("the test's own layout %d is right", i)
		}
		for section := -1; section < 3; section++ {
			wantAround(t, "wrong layout "+strconv.Itoa(i), l, section)
		}
	}
	l := street()
	l.Counters[5].To = -1
	wantAround(t, "a counter outside at both sides", l, 0)
	wantAround(t, "121 counters", fence(1, 121), 0)
}

func TestCountNumbers(t *testing.T) {
	got := []int{impl.MaxCountSections, impl.MaxCounters, impl.OPass, impl.OGhost, impl.ODead, impl.OAlive, impl.OReset, impl.Free, impl.Occupied, impl.Sweeping, impl.Failed}
	want := []int{60, 120, 1, 2, 3, 4, 5, 0, 1, 2, 3}
	if !reflect.DeepEqual(got, want) {
		t.Errorf("the numbers that the document names are %v, not %v", got, want)
	}
}

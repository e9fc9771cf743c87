package tests

import (
	"reflect"
	"slices"
	"strconv"
	"strings"
	"testing"

	"loop.example/signalbox/impl"
)

// slowWant is what a signal wants when all show this.
func slowWant(r impl.Row, shows []int, i int) int {
	if !r.Open[i] {
		return impl.AStop
	}
	if r.Next[i] == -1 {
		return impl.ASlow
	}
	switch shows[r.Next[i]] {
	case impl.ADark:
		return impl.AStop
	case impl.AStop:
		return impl.ASlow
	case impl.ASlow:
		return impl.ANear
	}
	return impl.AFree
}

func slowShow(lamps []bool, want int) int {
	best := impl.ADark
	for aspect, works := range lamps {
		if works && aspect <= want {
			best = aspect
		}
	}
	return best
}

// slowShows asks all at once, as the document says it, until nothing changes. It tells too how many times it asked.
func slowShows(r impl.Row) (wants, shows []int, times int) {
	for i := range r.Next {
		wants = append(wants, impl.AStop)
		shows = append(shows, slowShow(r.Works[i], impl.AStop))
	}
	for {
		var newWants, newShows []int
		for i := range r.Next {
			newWants = append(newWants, slowWant(r, shows, i))
			newShows = append(newShows, slowShow(r.Works[i], newWants[i]))
		}
		if slices.Equal(wants, newWants) && slices.Equal(shows, newShows) {
			return wants, shows, times
		}
		wants, shows = newWants, newShows
		times++
	}
}

func slowRowOk(r impl.Row) int {
	lengths := []int{len(r.Next), len(r.Far), len(r.Open), len(r.Works)}
	if slices.Max(lengths) > 60 || slices.Min(lengths) != slices.Max(lengths) {
		return 1
	}
	for i := range r.Next {
		isSignal := r.Next[i] >= 0 && r.Next[i] < len(r.Next)
		if !isSignal && r.Next[i] != -1 || r.Far[i] < 0 || r.Far[i] > 1000000 {
			return 2
		}
	}
	for i := range r.Works {
		if len(r.Works[i]) != 4 {
			return 3
		}
	}
	return 0
}

// agrees tells whether each signal would show just this, were it asked anew.
func agrees(r impl.Row, shows []int) bool {
	for i := range shows {
		if slowShow(r.Works[i], slowWant(r, shows, i)) != shows[i] {
			return false
		}
	}
	return true
}

func aspectsOf(text string) []int {
	var out []int
	for i := range len(text) {
		out = append(out, strings.IndexByte("x0123", text[i])-1)
	}
	return out
}

func wantSlowRow(t *testing.T, what string, r impl.Row) {
	t.Helper()
	if got, want := impl.RowOk(r), slowRowOk(r); got != want {
		t.Fatalf("%s: RowOk of %v is %d, not %d", what, r, got, want)
	}
	var wants, shows []int
	if slowRowOk(r) == 0 {
		wants, shows, _ = slowShows(r)
	}
	if got := impl.Wants(r); !slices.Equal(got, wants) {
		t.Fatalf("%s: %v wants %s, not %s", what, r, aspectsText(got), aspectsText(wants))
	}
	if got := impl.Shows(r); !slices.Equal(got, shows) {
		t.Fatalf("%s: %v shows %s, not %s", what, r, aspectsText(got), aspectsText(shows))
	}
}

// setSignal makes one of all signals that there can be in a row of so many.
func setSignal(r impl.Row, i, choice int) {
	for k := range 4 {
		r.Works[i][k] = choice>>k&1 == 0
	}
	r.Open[i] = choice>>4&1 == 0
	r.Next[i] = choice>>5 - 1
}

func choices(signals int) int { return 32 * (signals + 1) }

func TestShowsOfAllOfOneAndTwo(t *testing.T) {
	for count := 1; count <= 2; count++ {
		r := lineRow(count)
		for choice := range choices(count) {
			setSignal(r, 0, choice)
			if count == 1 {
				wantSlowRow(t, "one", r)
				continue
			}
			for other := range choices(count) {
				setSignal(r, 1, other)
				wantSlowRow(t, "two", r)
			}
		}
	}
}

func TestShowsOfAllOfThree(t *testing.T) {
	for first := range choices(3) {
		t.Run(strconv.Itoa(first), func(t *testing.T) {
			t.Parallel()
			r := lineRow(3)
			setSignal(r, 0, first)
			for second := range choices(3) {
				setSignal(r, 1, second)
				for third := range choices(3) {
					setSignal(r, 2, third)
					wantSlowRow(t, "three", r)
				}
			}
		})
	}
}

// The least of all answers that agree is below each of them at each signal.
func TestShowsTheLeastOfAll(t *testing.T) {
	d := &dice{state: 6}
	several := 0
	for range 3000 {
		count := 1 + d.below(4)
		r := lineRow(count)
		for i := range count {
			setSignal(r, i, d.below(choices(count)))
			if d.below(3) > 0 {
				r.Next[i] = (i + 1) % count
			}
			r.Open[i] = d.below(5) > 0
		}
		if len(r.Next) > 1 && d.below(2) == 0 {
			for i := range r.Works {
				r.Works[i] = slices.Clone(r.Works[0])
			}
		}
		shows := impl.Shows(r)
		if !agrees(r, shows) {
			t.Fatalf("%s shows %s, which does not agree", rowText(r), aspectsText(shows))
		}
		found := 0
		for number := range 5 * 5 * 5 * 5 {
			other := make([]int, count)
			for i := range other {
				other[i] = number%5 - 1
				number /= 5
			}
			if number > 0 || !agrees(r, other) {
				continue
			}
			found++
			for i := range other {
				if shows[i] > other[i] {
					t.Fatalf("%s shows %s, but %s agrees", rowText(r), aspectsText(shows), aspectsText(other))
				}
			}
		}
		if found > 1 {
			several++
		}
	}
	if several < 300 {
		t.Errorf("of %d rows alone more than one answer agrees", several)
	}
}

// rightRow is any that is right, often of signals that are alike, so that it takes many times of asking.
func (d *dice) rightRow() impl.Row {
	count := []int{1, 2, 3, 4, 5, 8, 20, 59, 60}[d.below(9)]
	r := lineRow(count)
	usual := d.below(16)
	shape := d.below(3)
	for i := range count {
		switch {
		case shape == 0 || d.below(20) == 0:
			r.Next[i] = d.below(count+1) - 1
		case shape == 1:
			r.Next[i] = (i + 1) % count
		}
		r.Far[i] = d.below(1000001)
		r.Open[i] = d.below(25) > 0
		lamps := usual
		if d.below(10) == 0 {
			lamps = d.below(16)
		}
		for k := range 4 {
			r.Works[i][k] = lamps>>k&1 == 0
		}
	}
	return r
}

func TestShowsOfAnyRow(t *testing.T) {
	d := &dice{state: 61}
	most, shown := 0, map[int]int{}
	for range 20000 {
		r := d.rightRow()
		if impl.RowOk(r) != 0 {
			t.Fatalf("the test's own row is not right: %v", r)
		}
		wantSlowRow(t, "any", r)
		_, shows, times := slowShows(r)
		most = max(most, times)
		for _, aspect := range shows {
			shown[aspect]++
		}
		to := from(0, len(r.Next))
		for i := range to {
			k := d.below(i + 1)
			to[i], to[k] = to[k], to[i]
		}
		if got, want := aspectsText(impl.Shows(renumbered(r, to))), renumberedText(aspectsText(shows), to); got != want {
			t.Fatalf("%s, numbered as %v, shows %s, not %s", rowText(r), to, got, want)
		}
	}
	if most < 40 {
		t.Errorf("it took %d times of asking at the most", most)
	}
	for aspect := impl.ADark; aspect <= impl.AFree; aspect++ {
		if shown[aspect] < 1000 {
			t.Errorf("%d was shown %d times alone", aspect, shown[aspect])
		}
	}
}

// anyRow is a right one with some of it thrown about.
func (d *dice) anyRow() impl.Row {
	r := d.rightRow()
	for range d.below(4) {
		at := d.below(len(r.Next))
		switch d.below(8) {
		case 0:
			r.Next[at] = d.number()
		case 1:
			r.Far[min(at, len(r.Far)-1)] = []int{-1, 0, 1000000, 1000001, d.number()}[d.below(5)]
		case 2, 3:
			lengths()[d.below(4)](&r, d.below(3))
		case 4:
			if at < len(r.Works) {
				r.Works[at] = make([]bool, d.below(7))
			}
		case 5:
			by := d.below(40)
			for _, change := range lengths() {
				change(&r, by)
			}
		}
	}
	return copyRow(r)
}

func TestRowsAnyArgument(t *testing.T) {
	d := &dice{state: 66}
	seen := map[int]int{}
	for i := range 20000 {
		r := d.anyRow()
		before := wholeRow(copyRow(r))
		what := "row " + strconv.Itoa(i)
		wantSlowRow(t, what, r)
		seen[impl.RowOk(r)]++
		wants, shows := impl.Wants(r), impl.Shows(r)
		if !reflect.DeepEqual(wholeRow(r), before) {
			t.Fatalf("%s: it was written into the argument %v", what, before)
		}
		wantApart(t, what+", Wants", wants, r, shows, impl.Wants(r))
		wantApart(t, what+", Shows", shows, r, impl.Shows(r))
		spoil(wants[:cap(wants)], 99)
		spoil(shows[:cap(shows)], 99)
		wantSlowRow(t, what+", asked anew", r)
		if !reflect.DeepEqual(wholeRow(r), before) {
			t.Fatalf("%s: an answer is part of the argument", what)
		}
	}
	for code := range 4 {
		if seen[code] < 500 {
			t.Errorf("RowOk was %d only %d times", code, seen[code])
		}
	}
}

// Numbers that are none at all, in every place, in lists of any lengths.
func TestRowsWildNumbers(t *testing.T) {
	d := &dice{state: 69}
	seen := map[int]int{}
	for i := range 40000 {
		r := impl.Row{Next: d.wildNumbers(), Far: d.wildNumbers(), Open: d.wildFlags()}
		for range d.below(3) {
			r.Works = append(r.Works, make([]bool, 3+d.below(3)))
		}
		if i%2 == 0 {
			r.Far, r.Open = make([]int, len(r.Next)), make([]bool, len(r.Next))
		}
		wantSlowRow(t, "wild", r)
		seen[impl.RowOk(r)]++
	}
	for code := range 4 {
		if seen[code] < 100 {
			t.Errorf("RowOk was %d only %d times", code, seen[code])
		}
	}
}

// One list may stand in several places of an argument.
func TestRowsThatShareLists(t *testing.T) {
	for count := range 20 {
		r := lineRow(count)
		spoil(r.Next, 0)
		r.Far = r.Next
		lamps := []bool{true, false, true, true}
		spoil(r.Works, lamps)
		if count == 4 {
			r.Open = lamps
		}
		before := copyRow(r)
		wantSlowRow(t, "shared", r)
		wantApart(t, "shared", impl.Wants(r), r, impl.Shows(r))
		if len(before.Next) > 0 && !reflect.DeepEqual(r, before) {
			t.Errorf("it was written into the row of %d", count)
		}
	}
}

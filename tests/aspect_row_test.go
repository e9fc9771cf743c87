package tests

import (
	"reflect"
	"strconv"
	"strings"
	"testing"

	"loop.example/signalbox/impl"
)

// Rows written as texts: a word for each signal, the number of its Next or "end", then "!" if its way is not open, then "/" and the lamps that are broken.

func lampsWithout(broken string) []bool {
	out := []bool{true, true, true, true}
	for i := range out {
		out[i] = !strings.Contains(broken, strconv.Itoa(i))
	}
	return out
}

func rowOf(t *testing.T, text string) impl.Row {
	t.Helper()
	var r impl.Row
	for i, word := range strings.Fields(text) {
		head, broken, _ := strings.Cut(word, "/")
		next := -1
		if to := strings.TrimSuffix(head, "!"); to != "end" {
			next = number(t, to)
		}
		r.Next = append(r.Next, next)
		r.Far = append(r.Far, 100*i)
		r.Open = append(r.Open, !strings.HasSuffix(head, "!"))
		r.Works = append(r.Works, lampsWithout(broken))
	}
	return r
}

func rowText(r impl.Row) string {
	var words []string
	for i, next := range r.Next {
		word := strconv.Itoa(next)
		if next == -1 {
			word = "end"
		}
		if !r.Open[i] {
			word += "!"
		}
		broken := ""
		for k, works := range r.Works[i] {
			if !works {
				broken += strconv.Itoa(k)
			}
		}
		if broken != "" {
			word += "/" + broken
		}
		words = append(words, word)
	}
	return strings.Join(words, " ")
}

// lineRow is so many signals, each one's next the one of the number below, all of their ways open, all lamps working.
func lineRow(signals int) impl.Row {
	var r impl.Row
	for i := range signals {
		r.Next = append(r.Next, i-1)
		r.Far = append(r.Far, 10*i)
		r.Open = append(r.Open, true)
		r.Works = append(r.Works, lampsWithout(""))
	}
	return r
}

// ringRow is a line whose end leads back to its beginning.
func ringRow(signals int) impl.Row {
	r := lineRow(signals)
	r.Next[0] = signals - 1
	return r
}

func copyRow(r impl.Row) impl.Row {
	out := impl.Row{Next: roomy(r.Next, 77), Far: roomy(r.Far, 77), Open: roomy(r.Open, true), Works: roomy(r.Works, []bool{true, false})}
	for i := range out.Works {
		out.Works[i] = roomy(out.Works[i], true)
	}
	return out
}

// wholeRow is the row with what lies behind the ends of its lists.
func wholeRow(r impl.Row) impl.Row {
	out := impl.Row{Next: r.Next[:cap(r.Next)], Far: r.Far[:cap(r.Far)], Open: r.Open[:cap(r.Open)], Works: append([][]bool{}, r.Works[:cap(r.Works)]...)}
	for i := range out.Works {
		out.Works[i] = out.Works[i][:cap(out.Works[i])]
	}
	return out
}

// wantRow asks too that of a row that is not right nothing is told.
func wantRow(t *testing.T, what string, r impl.Row, want int) {
	t.Helper()
	if got := impl.RowOk(r); got != want {
		t.Errorf("%s: RowOk is %d, not %d", what, got, want)
	}
	count := 0
	if want == 0 {
		count = len(r.Next)
	}
	if wants, shows := impl.Wants(r), impl.Shows(r); len(wants) != count || len(shows) != count {
		t.Errorf("%s: %d signals want something and %d show something, not %d", what, len(wants), len(shows), count)
	}
}

func TestRowRight(t *testing.T) {
	wantRow(t, "no signals", impl.Row{}, 0)
	wantRow(t, "empty lists", impl.Row{Next: []int{}, Far: []int{}, Open: []bool{}, Works: [][]bool{}}, 0)
	wantRow(t, "some lists empty, some nil", impl.Row{Next: []int{}, Open: []bool{}}, 0)
	wantRow(t, "one signal", lineRow(1), 0)
	wantRow(t, "a line", lineRow(4), 0)
	wantRow(t, "a ring", ringRow(4), 0)
	wantRow(t, "all the next of one", rowOf(t, "end 0 0 0"), 0)
	wantRow(t, "all its own next", rowOf(t, "0 1 2 3"), 0)
	wantRow(t, "no way open, no lamp working", rowOf(t, "end!/0123 0!/0123 1!/0123"), 0)
}

func TestRowHowMany(t *testing.T) {
	for _, count := range []int{0, 1, 2, 59, 60} {
		wantRow(t, "a line of "+strconv.Itoa(count), lineRow(count), 0)
	}
	for _, count := range []int{61, 62, 64, 120, 1000} {
		wantRow(t, "a line of "+strconv.Itoa(count), lineRow(count), 1)
		wantRow(t, "a ring of "+strconv.Itoa(count), ringRow(count), 1)
	}
	wantRow(t, "a ring of 60", ringRow(60), 0)
}

// longer gives the list another length: by repeating its first, or by leaving the last of it out. Of nothing it is so many zero values.
func longer[T any](list []T, by int) []T {
	out := append([]T{}, list...)
	for range by {
		var more T
		if len(list) > 0 {
			more = list[0]
		}
		out = append(out, more)
	}
	return out[:len(list)+by]
}

// lengths turns one of the four lists of a row longer, or shorter if it is below 0.
func lengths() []func(r *impl.Row, by int) {
	return []func(r *impl.Row, by int){
		func(r *impl.Row, by int) { r.Next = longer(r.Next, by) },
		func(r *impl.Row, by int) { r.Far = longer(r.Far, by) },
		func(r *impl.Row, by int) { r.Open = longer(r.Open, by) },
		func(r *impl.Row, by int) { r.Works = longer(r.Works, by) },
	}
}

func TestRowLengths(t *testing.T) {
	lists := []string{"Next", "Far", "Open", "Works"}
	for i, change := range lengths() {
		for _, count := range []int{0, 1, 2, 4, 30, 59, 60} {
			for _, by := range []int{1, 2, 40, 70} {
				what := lists[i] + " by " + strconv.Itoa(by) + " of " + strconv.Itoa(count)
				r := lineRow(count)
				change(&r, by)
				wantRow(t, "longer: "+what, r, 1)
				for k, other := range lengths() {
					if k != i {
						r := lineRow(count)
						change(&r, by)
						other(&r, by)
						wantRow(t, "longer: "+what+", and "+lists[k], r, 1)
					}
				}
				if by <= count {
					r := lineRow(count)
					change(&r, -by)
					wantRow(t, "shorter: "+what, r, 1)
				}
			}
		}
		r := lineRow(3)
		change(&r, -3)
		wantRow(t, lists[i]+" empty", r, 1)
	}
	all := lineRow(60)
	for _, change := range lengths() {
		change(&all, 1)
	}
	wantRow(t, "all four longer than 60", all, 1)
}

func TestRowNext(t *testing.T) {
	for _, count := range []int{1, 2, 4, 60} {
		for _, at := range []int{0, count / 2, count - 1} {
			put := func(next int) impl.Row {
				r := lineRow(count)
				r.Next[at] = next
				return r
			}
			what := "Next of " + strconv.Itoa(at) + " of " + strconv.Itoa(count) + ": "
			for next := -1; next < count; next++ {
				wantRow(t, what+strconv.Itoa(next), put(next), 0)
			}
			for _, next := range []int{farBelow, farBelow + 1, -1 << 32, -61, -3, -2, count, count + 1, 61, 1 << 32, 1<<32 - 1, farAbove - 1, farAbove} {
				wantRow(t, what+strconv.Itoa(next), put(next), 2)
			}
		}
	}
}

func TestRowFar(t *testing.T) {
	for _, count := range []int{1, 2, 4, 60} {
		for _, at := range []int{0, count / 2, count - 1} {
			put := func(far int) impl.Row {
				r := lineRow(count)
				r.Far[at] = far
				return r
			}
			what := "Far of " + strconv.Itoa(at) + " of " + strconv.Itoa(count) + ": "
			for _, far := range []int{0, 1, 60, 1000, 65536, 999999, 1000000} {
				wantRow(t, what+strconv.Itoa(far), put(far), 0)
			}
			for _, far := range []int{farBelow, farBelow + 1, -1000000, -2, -1, 1000001, 1000002, 1 << 32, farAbove - 1, farAbove} {
				wantRow(t, what+strconv.Itoa(far), put(far), 2)
			}
		}
	}
}

func TestRowLamps(t *testing.T) {
	for _, count := range []int{1, 2, 4, 60} {
		for _, at := range []int{0, count / 2, count - 1} {
			for _, lamps := range []int{0, 1, 2, 3, 4, 5, 6, 8, 260, 1000} {
				want := 3
				if lamps == 4 {
					want = 0
				}
				what := strconv.Itoa(lamps) + " lamps of " + strconv.Itoa(at) + " of " + strconv.Itoa(count)
				r := lineRow(count)
				r.Works[at] = make([]bool, lamps)
				wantRow(t, what, r, want)
				spoil(r.Works[at], true)
				wantRow(t, what+", all working", r, want)
				r.Works[at] = append(make([]bool, 0, 9), r.Works[at]...)
				wantRow(t, what+", and room for more", r, want)
				r.Open[at] = false
				wantRow(t, what+", no way open", r, want)
			}
			r := lineRow(count)
			r.Works[at] = nil
			wantRow(t, "no list of lamps", r, 3)
		}
	}
	r := lineRow(3)
	r.Works[0], r.Works[2] = make([]bool, 3), make([]bool, 5)
	wantRow(t, "three lamps and five", r, 3)
}

// rowSpoil makes one fault at a signal of a row of four.
type rowSpoil struct {
	what string
	code int
	make func(r *impl.Row, at int)
}

func rowSpoils() []rowSpoil {
	return []rowSpoil{
		{"too many", 1, func(r *impl.Row, at int) {
			for _, change := range lengths() {
				change(r, 57)
			}
		}},
		{"a long Next", 1, func(r *impl.Row, at int) { r.Next = longer(r.Next, 1) }},
		{"a long Far", 1, func(r *impl.Row, at int) { r.Far = longer(r.Far, 1) }},
		{"a long Open", 1, func(r *impl.Row, at int) { r.Open = longer(r.Open, 1) }},
		{"a long Works", 1, func(r *impl.Row, at int) { r.Works = longer(r.Works, 1) }},
		{"no Open", 1, func(r *impl.Row, at int) { r.Open = nil }},
		{"a Next below", 2, func(r *impl.Row, at int) { r.Next[at] = -2 }},
		{"a Next above", 2, func(r *impl.Row, at int) { r.Next[at] = 100 }},
		{"a Far below", 2, func(r *impl.Row, at int) { r.Far[at] = -1 }},
		{"a Far above", 2, func(r *impl.Row, at int) { r.Far[at] = 1000001 }},
		{"three lamps", 3, func(r *impl.Row, at int) { r.Works[at] = make([]bool, 3) }},
		{"five lamps", 3, func(r *impl.Row, at int) { r.Works[at] = make([]bool, 5) }},
		{"no lamps", 3, func(r *impl.Row, at int) { r.Works[at] = nil }},
	}
}

func TestRowOrderOfFaults(t *testing.T) {
	spoils := rowSpoils()
	for i, a := range spoils {
		for k, b := range spoils {
			for at := range 16 {
				r := lineRow(4)
				// What makes lists longer comes last, so that the numbers stand where they are.
				first, last := a, b
				if i < k {
					first, last = b, a
				}
				first.make(&r, at%4)
				last.make(&r, at/4)
				wantRow(t, a.what+", "+b.what+" at "+strconv.Itoa(at%4)+" and "+strconv.Itoa(at/4), r, min(a.code, b.code))
			}
		}
	}
	r := lineRow(4)
	for i := range spoils {
		spoils[len(spoils)-1-i].make(&r, 3-i%4)
	}
	wantRow(t, "all at once", r, 1)
}

func TestAspectNumbers(t *testing.T) {
	got := []int{impl.MaxSignals, impl.MaxRowFar, impl.ADark, impl.AStop, impl.ASlow, impl.ANear, impl.AFree}
	want := []int{60, 1000000, -1, 0, 1, 2, 3}
	if !reflect.DeepEqual(got, want) {
		t.Errorf("the numbers that the document names are %v, not %v", got, want)
	}
}

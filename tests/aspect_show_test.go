package tests

import (
	"strconv"
	"strings"
	"testing"

	"loop.example/signalbox/impl"
)

// aspectsText is a sign for each signal, "x" for a dark one.
func aspectsText(list []int) string {
	out := ""
	for _, a := range list {
		if a >= impl.ADark && a <= impl.AFree {
			out += string("x0123"[a+1])
		} else {
			out += "(" + strconv.Itoa(a) + ")"
		}
	}
	return out
}

func wantShown(t *testing.T, what string, r impl.Row, wants, shows string) {
	t.Helper()
	if got := aspectsText(impl.Wants(r)); got != wants {
		t.Errorf("%s: %s wants %s, not %s", what, rowText(r), got, wants)
	}
	if got := aspectsText(impl.Shows(r)); got != shows {
		t.Errorf("%s: %s shows %s, not %s", what, rowText(r), got, shows)
	}
}

func wantAspects(t *testing.T, what, row, wants, shows string) {
	t.Helper()
	wantShown(t, what, rowOf(t, row), wants, shows)
}

func TestShowsNothing(t *testing.T) {
	wantShown(t, "no signals", impl.Row{}, "", "")
	wantShown(t, "empty lists", impl.Row{Next: []int{}, Far: []int{}, Open: []bool{}, Works: [][]bool{}}, "", "")
	wantShown(t, "61 signals", lineRow(61), "", "")
	wantShown(t, "a ring of 61", ringRow(61), "", "")
	for _, s := range rowSpoils() {
		for at := range 4 {
			r := lineRow(4)
			s.make(&r, at)
			if wants, shows := impl.Wants(r), impl.Shows(r); len(wants) != 0 || len(shows) != 0 {
				t.Errorf("%s at %d: it wants %v and shows %v", s.what, at, wants, shows)
			}
		}
	}
}

func TestShowsOfOneSignal(t *testing.T) {
	wantAspects(t, "open to an end", "end", "1", "1")
	wantAspects(t, "not open", "end!", "0", "0")
	for broken, shows := range map[string]string{"0": "1", "1": "0", "2": "1", "3": "1", "01": "x", "02": "1", "03": "1", "12": "0", "13": "0", "23": "1", "012": "x", "013": "x", "023": "1", "123": "0", "0123": "x"} {
		wantAspects(t, "open to an end, lamps broken", "end/"+broken, "1", shows)
	}
	for broken, shows := range map[string]string{"0": "x", "1": "0", "2": "0", "3": "0", "01": "x", "02": "x", "03": "x", "12": "0", "13": "0", "23": "0", "012": "x", "013": "x", "023": "x", "123": "0", "0123": "x"} {
		wantAspects(t, "not open, lamps broken", "end!/"+broken, "0", shows)
	}
}

// leaders are rows of which signal 0 shows each aspect; the others are there for it.
func leaders() map[string]string {
	return map[string]string{
		"x": "end!/0",
		"0": "end!",
		"1": "end",
		"2": "1 end",
		"3": "1 2 end",
	}
}

func TestShowsAfterEach(t *testing.T) {
	follows := map[string]string{"x": "0", "0": "1", "1": "2", "2": "3", "3": "3"}
	for aspect, leader := range leaders() {
		next := len(strings.Fields(leader))
		asked := func(what, word, wants, shows string) {
			t.Helper()
			r := rowOf(t, leader+" "+word)
			if got := aspectsText(impl.Shows(r)); got[:1] != aspect {
				t.Fatalf("the leader %s shows %s", leader, got)
			}
			if got := aspectsText(impl.Wants(r)); got[next:] != wants {
				t.Errorf("%s, its Next shows %s: it wants %s, not %s", what, aspect, got[next:], wants)
			}
			if got := aspectsText(impl.Shows(r)); got[next:] != shows {
				t.Errorf("%s, its Next shows %s: it shows %s, not %s", what, aspect, got[next:], shows)
			}
		}
		asked("open", "0", follows[aspect], follows[aspect])
		asked("not open", "0!", "0", "0")
		asked("not open and broken", "0!/0", "0", "x")
		asked("no Next", "end", "1", "1")
		for lamps := range 16 {
			broken, shows := "", "x"
			for k := range 4 {
				if lamps>>k&1 == 0 {
					broken += strconv.Itoa(k)
				} else if k <= number(t, follows[aspect]) {
					shows = strconv.Itoa(k)
				}
			}
			asked("open, broken "+broken, "0/"+broken, follows[aspect], shows)
		}
	}
}

func TestShowsAlongLines(t *testing.T) {
	wantAspects(t, "a line", "end 0 1 2", "1233", "1233")
	wantAspects(t, "the other way", "1 2 3 end", "3321", "3321")
	wantAspects(t, "a long one", "end 0 1 2 3 4 5 6 7", "123333333", "123333333")
	wantAspects(t, "about", "3 4 end 2 0", "33123", "33123")
	wantAspects(t, "two behind one", "end 0 0 1 2", "12233", "12233")
	wantAspects(t, "two lines", "end 0 end 2", "1212", "1212")
	wantAspects(t, "one not open", "end 0 1! 2 3 4 5", "1201233", "1201233")
	wantAspects(t, "two not open", "end 0! 1 2! 3 4", "101012", "101012")
	wantAspects(t, "none open", "end! 0! 1!", "000", "000")
	wantAspects(t, "the first not open", "end! 0 1 2 3", "01233", "01233")
	wantAspects(t, "no lamp works", "end/0123 0/0123 1/0123", "100", "xxx")
	wantAspects(t, "one dark", "end 0 1/0123 2 3 4 5", "1230123", "12x0123")
	wantAspects(t, "dark and not open", "end 0 1!/0 2 3 4", "120012", "12x012")
	wantAspects(t, "dark behind dark", "end!/0 0/0 1/0 2 3", "00001", "xxx01")
	wantAspects(t, "stop is broken, and nobody needs it", "end/0 0/0 1/0 2/0", "1233", "1233")
	wantAspects(t, "slow is broken at all", "end/1 0/1 1/1 2/1", "1111", "0000")
	wantAspects(t, "near is broken at all", "end/2 0/2 1/2 2/2", "1222", "1111")
	wantAspects(t, "free is broken at all", "end/3 0/3 1/3 2/3", "1233", "1222")
	wantAspects(t, "slow is broken at one", "end 0/1 1/1 2/1", "1233", "1233")
	wantAspects(t, "slow alone works", "end/023 0/023 1/023", "122", "111")
	wantAspects(t, "near alone works", "end/013 0/013 1/013", "100", "xxx")
	wantAspects(t, "stop and free work", "end 0 1 2/12 3/12 4! 5/12 6/12", "12333011", "12333000")
}

func TestShowsDoesNotSeeFar(t *testing.T) {
	for _, far := range []int{0, 1, 1000, 1000000} {
		r := rowOf(t, "end 0 1! 2/1 3 0 6")
		spoil(r.Far, far)
		wantShown(t, "Far "+strconv.Itoa(far), r, "1201123", "1200123")
	}
}

func TestShowsOfOneThatLeadsToItself(t *testing.T) {
	for _, c := range []struct{ word, wants, shows string }{
		{"0", "3", "3"}, {"0!", "0", "0"}, {"0!/0", "0", "x"}, {"0!/0123", "0", "x"}, {"0!/123", "0", "0"},
		{"0/0", "0", "x"}, {"0/1", "1", "0"}, {"0/2", "2", "1"}, {"0/3", "3", "2"},
		{"0/01", "0", "x"}, {"0/02", "0", "x"}, {"0/03", "0", "x"}, {"0/12", "1", "0"}, {"0/13", "1", "0"}, {"0/23", "2", "1"},
		{"0/012", "0", "x"}, {"0/013", "0", "x"}, {"0/023", "0", "x"}, {"0/123", "1", "0"}, {"0/0123", "0", "x"},
	} {
		wantAspects(t, "alone", c.word, c.wants, c.shows)
	}
	wantAspects(t, "two, each by itself", "0/2 1/1", "21", "10")
	wantAspects(t, "with a tail", "0/1 0 1 2 3", "11233", "01233")
	wantAspects(t, "dark, with a tail", "0/0 0 1 2 3 0", "001230", "x01230")
}

func TestShowsOfRings(t *testing.T) {
	wantAspects(t, "two", "1 0", "33", "33")
	wantAspects(t, "two, one not open", "1! 0", "01", "01")
	wantAspects(t, "two, none open", "1! 0!", "00", "00")
	wantAspects(t, "two, one dark", "1/0123 0", "10", "x0")
	wantAspects(t, "two, one not open and dark", "1!/0 0", "00", "x0")
	wantAspects(t, "three", "1 2 0", "333", "333")
	wantAspects(t, "three, the other way", "2 0 1", "333", "333")
	wantAspects(t, "three, one not open", "1 2! 0", "102", "102")
	wantAspects(t, "three, one dark", "1 2/0123 0", "021", "0x1")
	wantAspects(t, "a tail", "1 0 0 2 3", "33333", "33333")
	wantAspects(t, "a tail, one of the ring not open", "1! 0 0 2 3", "01123", "01123")
	wantAspects(t, "a tail at each, one of the ring not open", "1! 2 0 0 1 2", "021132", "021132")
	wantAspects(t, "a tail, one of it not open", "1 0 0! 2 3", "33012", "33012")
	wantAspects(t, "a tail of a ring in which near is broken", "1/2 0/2 0 2 3", "22233", "11233")
	wantAspects(t, "two rings", "1 0 3/1 2/1 2", "33111", "33001")
}

func TestShowsOfRingsWithLampsBroken(t *testing.T) {
	for broken, c := range map[string][2]string{"0": {"0", "x"}, "1": {"1", "0"}, "2": {"2", "1"}, "3": {"3", "2"}} {
		for _, count := range []int{1, 2, 3, 4, 59, 60} {
			r := ringRow(count)
			for i := range r.Works {
				r.Works[i] = lampsWithout(broken)
			}
			wantShown(t, "lamp "+broken+" broken at all", r, strings.Repeat(c[0], count), strings.Repeat(c[1], count))
		}
	}
	wantAspects(t, "stop broken at one of two", "1/0 0", "33", "33")
	wantAspects(t, "slow broken at one of two", "1/1 0", "33", "33")
	wantAspects(t, "near broken at one of two", "1/2 0", "33", "33")
	wantAspects(t, "free broken at one of two", "1/3 0", "33", "23")
	wantAspects(t, "stop broken at one of three", "1 2/0 0", "333", "333")
	wantAspects(t, "slow broken at one of three", "1 2/1 0", "333", "333")
	wantAspects(t, "near broken at one of three", "1 2/2 0", "333", "333")
	wantAspects(t, "free broken at one of three", "1 2/3 0", "333", "323")
	for lamp, shows := range map[string]string{"0": "3", "1": "3", "2": "3", "3": "2"} {
		r := ringRow(60)
		r.Works[17] = lampsWithout(lamp)
		wantShown(t, "broken at one of sixty: "+lamp, r, strings.Repeat("3", 60), strings.Repeat("3", 17)+shows+strings.Repeat("3", 42))
	}
	wantAspects(t, "slow broken at two of three", "1/1 2/1 0", "333", "333")
	wantAspects(t, "slow broken at one, near at the other", "1/1 0/2", "33", "33")
	wantAspects(t, "stop broken at one, slow at the other", "1/0 0/1", "33", "33")
	wantAspects(t, "slow and near broken at one", "1/12 0", "21", "01")
}

// Of these rings more than one answer agrees with what each signal asks of its Next: the least one is told.
func TestShowsTheLeast(t *testing.T) {
	for _, c := range []struct{ row, wants, shows, greater string }{
		{"0/0", "0", "x", "3"},
		{"0/1", "1", "0", "3"},
		{"0/2", "2", "1", "3"},
		{"1/0 0/0", "00", "xx", "33"},
		{"1/1 0/1", "11", "00", "33"},
		{"1/2 0/2", "22", "11", "33"},
		{"1/02 0/02", "00", "xx", "11"},
		{"1/02 0/02", "00", "xx", "33"},
		{"1/0 2/0 0/0", "000", "xxx", "333"},
		{"1/1 2/1 0/1", "111", "000", "333"},
		{"1/2 2/2 0/2", "222", "111", "333"},
		{"1/1 0/1 0 2 3", "11123", "00123", "33333"},
	} {
		r := rowOf(t, c.row)
		wantShown(t, "the least", r, c.wants, c.shows)
		if !agrees(r, aspectsOf(c.greater)) || !agrees(r, aspectsOf(c.shows)) {
			t.Errorf("the test's own case: %s or %s does not agree with %s", c.shows, c.greater, c.row)
		}
	}
}

// sixty is a row of sixty signals: those of the text, and behind the last of them the others, one behind the other, with lamps broken at each.
func sixty(t *testing.T, head, broken string) impl.Row {
	t.Helper()
	r := rowOf(t, head)
	for i := len(r.Next); i < 60; i++ {
		r.Next = append(r.Next, i-1)
		r.Far = append(r.Far, i)
		r.Open = append(r.Open, true)
		r.Works = append(r.Works, lampsWithout(broken))
	}
	return r
}

// filled is the text, its last sign repeated until there are sixty.
func filled(text string) string { return text + strings.Repeat(text[len(text)-1:], 60-len(text)) }

// renumbered is the same row with signal i under the number to[i].
func renumbered(r impl.Row, to []int) impl.Row {
	out := lineRow(len(to))
	for i, next := range r.Next {
		k := to[i]
		out.Next[k] = -1
		if next != -1 {
			out.Next[k] = to[next]
		}
		out.Far[k], out.Open[k], out.Works[k] = r.Far[i], r.Open[i], r.Works[i]
	}
	return out
}

func renumberedText(text string, to []int) string {
	out := make([]byte, len(to))
	for i, k := range to {
		out[k] = text[i]
	}
	return string(out)
}

// orders are some ways to number sixty signals: as they are, from the end, and far from one another.
func orders() [][]int {
	out := make([][]int, 4)
	for i := range 60 {
		out[0] = append(out[0], i)
		out[1] = append(out[1], 59-i)
		out[2] = append(out[2], i*37%60)
		out[3] = append(out[3], i*31%60)
	}
	return out
}

// In these rows what is at the end is seen one signal further with each time of asking.
func TestShowsOnlyAfterMany(t *testing.T) {
	for _, c := range []struct{ what, head, broken, wants, shows string }{
		{"dark until there is light at the end", "end", "0", "123", "123"},
		{"dark until there is stop at the end", "end!", "0", "0123", "0123"},
		{"dark, as the end is", "end!/0", "0", "0", "x"},
		{"stop until there is slow at the end", "end", "1", "123", "123"},
		{"stop, as slow is broken at the end too", "end/1", "1", "1", "0"},
		{"stop, as the end is", "end!", "1", "01", "0"},
		{"slow, as the end is", "end", "2", "12", "1"},
		{"slow until there is near at the end", "end 0", "2", "123", "123"},
		{"dark until there is slow at the end, where slow alone works", "end", "023", "12", "1"},
		{"dark until there is stop at the end, where slow alone works", "end!", "023", "012", "01"},
		{"dark, as the end is, where slow alone works", "end!/0", "023", "0", "x"},
		{"dark, as near is no use where free alone works", "end", "012", "120", "1x"},
		{"dark until there is free at the end, where free alone works", "end 0 1", "012", "123", "123"},
		{"dark until there is near at the end, where near alone works", "end 0", "013", "123", "12"},
	} {
		r := sixty(t, c.head, c.broken)
		for _, to := range orders() {
			wantShown(t, c.what, renumbered(r, to), renumberedText(filled(c.wants), to), renumberedText(filled(c.shows), to))
		}
	}
}

func TestShowsOnlyAfterManyOfARing(t *testing.T) {
	for _, c := range []struct{ what, head, broken, wants, shows string }{
		{"dark until it comes round", "59", "0", "3", "3"},
		{"stop until it comes round", "59", "1", "3", "3"},
		{"slow until it comes round", "59", "2", "3", "3"},
		{"near at all but one", "59", "3", "3", "32"},
		{"dark at all", "59/0", "0", "0", "x"},
		{"stop at all", "59/1", "1", "1", "0"},
		{"slow at all", "59/2", "2", "2", "1"},
		{"one not open", "59!", "", "0123", "0123"},
		{"one not open, stop broken at the others", "59!", "0", "0123", "0123"},
		{"one not open, slow broken at the others", "59!", "1", "01", "0"},
		{"one dark, stop broken at the others", "59/0123", "0", "0", "x"},
		{"a tail behind a ring of two, stop broken at all of it", "1 0", "0", "3", "3"},
		{"a tail behind a ring of two that is dark", "1/0 0/0", "0", "0", "x"},
		{"a tail behind a ring of two with slow broken", "1/1 0/1", "", "11123", "00123"},
		{"a tail behind a ring of three, one not open", "1 2 0!", "", "210123", "210123"},
	} {
		r := sixty(t, c.head, c.broken)
		for _, to := range orders() {
			wantShown(t, c.what, renumbered(r, to), renumberedText(filled(c.wants), to), renumberedText(filled(c.shows), to))
		}
	}
}

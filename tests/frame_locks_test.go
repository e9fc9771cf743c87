package tests

import (
	"reflect"
	"slices"
	"strconv"
	"testing"

	"loop.example/signalbox/impl"
)

// wantLocks holds all that is told of a frame against what is wanted: which ways are proved (x), by which way each section is locked (-, or its number), and which ways want each switch.
func wantLocks(t *testing.T, p impl.Plan, text, proved, locked string, wanting ...[]int) {
	t.Helper()
	f := frameOf(t, p, text)
	if !impl.FrameOk(p, f) {
		t.Errorf("the test's own frame %s is none", text)
		return
	}
	gotProved, gotLocked := "", ""
	for way := range p.Ways {
		gotProved += flagsText([]bool{impl.Proved(p, f, way)}, ".", "x")
	}
	for section := range p.Sections {
		word := strconv.Itoa(impl.LockedBy(p, f, section))
		if word == "-1" {
			word = "-"
		}
		gotLocked += word
	}
	if gotProved != proved || gotLocked != locked {
		t.Errorf("%s: proved %s, locked %s; not %s, %s", text, gotProved, gotLocked, proved, locked)
	}
	for point, want := range wanting {
		if got := impl.PointLock(p, f, point); !slices.Equal(got, want) {
			t.Errorf("%s: PointLock of %d is %v, not %v", text, point, got, want)
		}
	}
	for _, none := range []int{farBelow, -1, 8, 1 << 32, farAbove} {
		if impl.Proved(p, f, none) || impl.LockedBy(p, f, none) != -1 || len(impl.PointLock(p, f, none)) != 0 {
			t.Errorf("%s: something is told of %d", text, none)
		}
	}
	if impl.Proved(p, f, len(p.Ways)) || impl.LockedBy(p, f, p.Sections) != -1 || len(impl.PointLock(p, f, len(p.Switches))) != 0 {
		t.Errorf("%s: something is told of one behind the last", text)
	}
}

func TestFrameLocks(t *testing.T) {
	p := fork(t)
	no, by0, by1, by3 := []int(nil), []int{0}, []int{1}, []int{3}
	// idle ways are proved or not
	wantLocks(t, p, "........ 11 11 11 / - - - - -", "x.x.x", "--------", no, no, no)
	wantLocks(t, p, "........ 22 22 22 / - - - - -", ".xxx.", "--------", no, no, no)
	wantLocks(t, p, "........ 12 21 10 / - - - - -", "..x..", "--------", no, no, no)
	wantLocks(t, p, "#....... 11 11 11 / - - - - -", "..x.x", "--------", no, no, no)
	wantLocks(t, p, "....#... 11 11 11 / - - - - -", "....x", "--------", no, no, no)
	wantLocks(t, p, ".....#.# 11 11 11 / - - - - -", "x.x.x", "--------", no, no, no)
	wantLocks(t, p, "......#. 22 22 22 / - - - - -", ".xx..", "--------", no, no, no)
	wantLocks(t, p, "...#.... 22 22 22 / - - - - -", "..xx.", "--------", no, no, no)
	// way 0 in each State
	wantLocks(t, p, "........ 11 11 11 / c+ - - - -", "x.x.x", "000-----", by0, by0, no)
	wantLocks(t, p, "........ 10 11 11 / s - - - -", "..x.x", "000-----", by0, by0, no)
	wantLocks(t, p, "........ 22 11 11 / s+ - - - -", "..xxx", "000-----", by0, by0, no)
	wantLocks(t, p, "........ 11 11 11 / t+@2 - - - -", "x.x.x", "000-----", by0, by0, no)
	wantLocks(t, p, "#....... 11 11 11 / u:x.. - - - -", "..x.x", "000-----", by0, by0, no)
	wantLocks(t, p, "........ 11 11 11 / u:x.. - - - -", "x.x.x", "000-----", by0, by0, no)
	wantLocks(t, p, ".#...... 11 11 11 / ug1:xx. - - - -", "..x.x", "-00-----", by0, by0, no)
	wantLocks(t, p, "###..... 11 11 11 / ug1:xxx - - - -", "..x.x", "-00-----", by0, by0, no)
	wantLocks(t, p, "..#..... 11 11 11 / ug2:xxx - - - -", "..x.x", "--0-----", no, by0, no)
	wantLocks(t, p, "###..... 11 11 11 / ug2:xxx - - - -", "..x.x", "--0-----", no, by0, no)
	// way 1, with two switches on it
	wantLocks(t, p, "........ 22 22 22 / - c+ - - -", ".xxx.", "11-1----", by1, by1, by1)
	wantLocks(t, p, "........ 22 22 22 / - t+@3 - - -", ".xxx.", "11-1----", by1, by1, by1)
	wantLocks(t, p, ".#...... 22 22 22 / - ug1:xx. - - -", "..xx.", "-1-1----", by1, by1, by1)
	wantLocks(t, p, "...#.... 22 22 22 / - ug2:xxx - - -", "..xx.", "---1----", no, by1, by1)
	wantLocks(t, p, ".#.#.... 22 22 22 / - ug1:xxx - - -", "..xx.", "-1-1----", by1, by1, by1)
	// others, and several
	wantLocks(t, p, "....#... 11 11 11 / - - u:x - -", "....x", "----2---", no, no, no)
	wantLocks(t, p, "........ 22 11 11 / - - - c+ -", "..xxx", "-----3--", by3, no, no)
	wantLocks(t, p, ".....#.. 22 11 11 / - - - u:x -", "..x.x", "-----3--", by3, no, no)
	wantLocks(t, p, "........ 22 22 22 / - c+ - c+ -", ".xxx.", "11-1-3--", []int{1, 3}, by1, by1)
	wantLocks(t, p, "...#.... 22 22 22 / - ug2:xxx - c+ -", "..xx.", "---1-3--", by3, by1, by1)
	wantLocks(t, p, "........ 11 11 11 / c+ - - - c+", "x.x.x", "000---4-", by0, by0, []int{4})
	wantLocks(t, p, "........ 11 11 10 / t+@1 - - s s", "x.x..", "000--34-", []int{0, 3}, by0, []int{4})
	wantLocks(t, p, "........ 12 21 10 / - t+@1 t+@1 s -", "..x..", "11-123--", []int{1, 3}, by1, by1)
}

// Two ways that do not exclude each other may want one switch, the one on it and the other one beside it.
func TestFrameLocksOfMany(t *testing.T) {
	p := planOf(t, 4, "3 3", 2, "",
		"0 | | 1:1 0:1 | |",
		"1 | | 0:1 | |",
		"2 3 | 1:1 0:1 | | |",
	)
	all := []int{0, 1, 2}
	wantLocks(t, p, ".... 11 11 / c+ c+ c+", "xxx", "0122", all, []int{0, 2})
	wantLocks(t, p, ".... 11 11 / - c+ c+", "xxx", "-122", []int{1, 2}, []int{2})
	wantLocks(t, p, ".... 11 11 / c+ - t+@1", "xxx", "0-22", []int{0, 2}, []int{0, 2})
	wantLocks(t, p, "...# 11 11 / c+ u ug1:xx", "xx.", "01-2", all, []int{0, 2})
	wantLocks(t, p, "#.## 20 21 / u:x t+@2 u:xx", "...", "0122", all, []int{0, 2})
	wantLocks(t, p, "#..# 20 21 / u:x t+@2 ug1:xx", "...", "01-2", all, []int{0, 2})
}

func TestFrameToldOfNone(t *testing.T) {
	p := fork(t)
	want := impl.Stays{}
	none := func(what string, p impl.Plan, f impl.Frame) {
		t.Helper()
		for of := -1; of < 9; of++ {
			if impl.Proved(p, f, of) || impl.LockedBy(p, f, of) != -1 || len(impl.PointLock(p, f, of)) != 0 || impl.WhyNot(p, f, of) != 1 || !reflect.DeepEqual(impl.Blocked(p, f, of), want) {
				t.Errorf("%s: something is told of %d", what, of)
			}
		}
	}
	none("the zero value", p, impl.Frame{})
	for _, text := range []string{
		"........ 11 11 11 / s - - - -",
		"......## 11 11 11 / s+ - c+ c+ -",
		"#####... 11 11 11 / t+@1 t+@1 - - -",
		"........ 11 11 11 / t+@4 - - - -",
		"..#..... 11 11 11 / ug1:xxx - - - -",
		"......#. 31 11 11 / - - - c+ -",
		"......#. 11 13 11 / - - - c+ -",
	} {
		none(text, p, frameOf(t, p, text))
	}
	f := impl.BeginFrame(p)
	f.Ok = false
	none("not Ok", p, f)
	for _, s := range planSpoils() {
		p := fork(t)
		s.do(&p)
		none(s.what, p, frameOf(t, fork(t), "##..#... 11 11 11 / - u:xx. - - -"))
	}
}

// tangle has way 0, and for each cause for which it cannot be set something that may be so or not.
func tangle(t *testing.T) impl.Plan {
	t.Helper()
	return planOf(t, 11, "4 3 4", 3, "0-1",
		"1 0 |     | 1:1 0:1 2:1 | 2 9 |",
		"5   |     |         |     |",
		"6   |     |         | 7 0 |",
		"8 2 |     |         |     |",
		"7   |     | 1:2     |     |",
		"10  |     | 1:2     |     |",
	)
}

// Each cause by itself, and with all others.
func TestFrameWhyNot(t *testing.T) {
	p := tangle(t)
	seen := map[int]int{}
	for flags := range 1 << 11 {
		is := func(bit int) bool { return flags>>bit&1 > 0 }
		f := impl.BeginFrame(p)
		want, stays := 0, impl.Stays{}
		why := func(code int) {
			if want == 0 {
				want = code
			}
		}
		hold := func(way int) {
			f.Ways[way].State, f.Ways[way].Shown, f.Ways[way].Timer = impl.WTaking, true, 2
		}
		if is(0) {
			hold(0)
			why(2)
		}
		for k := 1; k <= 3; k++ {
			if is(k) {
				hold(k)
				why(3)
				stays.Ways = append(stays.Ways, k)
			}
		}
		for k, section := range []int{0, 2, 9} {
			if is(4 + k) {
				f.Occ[section] = true
				why(4)
				stays.Sections = append(stays.Sections, section)
			}
		}
		// way 4 is held, and wants a switch that is wanted as way 0 needs it, unless way 5 is held too
		if is(7) {
			hold(4)
		}
		if is(8) {
			hold(5)
			f.Points[1].Want = 2
			why(5)
		}
		if is(9) {
			f.Points[0].Want, f.Points[2].Want = 2, 2
		}
		if is(10) {
			f.Occ[4] = true
		}
		if is(9) && is(10) {
			why(6)
		}
		for point, so := range []bool{is(9) && (is(0) || is(10)), is(8), is(9) && (is(0) || is(10))} {
			if so {
				stays.Points = append(stays.Points, point)
			}
		}
		if is(0) && is(1) {
			want, stays = 1, impl.Stays{}
		}
		got, blocked := impl.WhyNot(p, f, 0), impl.Blocked(p, f, 0)
		if got != want || !sameStays(blocked, stays) {
			t.Errorf("%s: WhyNot %d, Blocked %v; not %d, %v", frameText(f), got, blocked, want, stays)
		}
		done := impl.DoFrame(p, f, eventOf(t, "ask 0"))
		if done.Code != want || want > 1 && frameText(done.Frame) != frameText(f) {
			t.Errorf("%s: to ask has Code %d, not %d: %s", frameText(f), done.Code, want, frameText(done.Frame))
		}
		wantApart(t, frameText(f), blocked, p, f)
		seen[want]++
	}
	for code := range 7 {
		if seen[code] < 2 {
			t.Errorf("%d was seen %d times alone", code, seen[code])
		}
	}
}

func sameStays(a, b impl.Stays) bool {
	return slices.Equal(a.Ways, b.Ways) && slices.Equal(a.Sections, b.Sections) && slices.Equal(a.Points, b.Points)
}

func TestFrameWhyNotTexts(t *testing.T) {
	p := fork(t)
	for _, c := range []struct {
		text string
		want [5]int
	}{
		{"........ 11 11 11 / - - - - -", [5]int{0, 0, 0, 0, 0}},
		{"........ 22 22 22 / - - - - -", [5]int{0, 0, 0, 0, 0}},
		{"........ 10 20 10 / - - - - -", [5]int{0, 0, 0, 0, 0}},
		{"#....... 11 11 11 / - - - - -", [5]int{4, 4, 0, 0, 0}},
		{".#...... 11 11 11 / - - - - -", [5]int{4, 4, 0, 6, 0}},
		{".#...... 22 11 11 / - - - - -", [5]int{4, 4, 0, 0, 0}},
		{"..#..... 11 11 11 / - - - - -", [5]int{4, 0, 0, 0, 0}},
		{"...#.... 11 11 11 / - - - - -", [5]int{0, 4, 0, 0, 0}},
		{"...#.... 11 21 11 / - - - - -", [5]int{6, 4, 0, 0, 0}},
		{"....#... 11 11 11 / - - - - -", [5]int{4, 0, 4, 0, 0}},
		{".....#.# 11 11 11 / - - - - -", [5]int{0, 0, 0, 4, 0}},
		{"......#. 11 11 11 / - - - - -", [5]int{0, 6, 0, 4, 4}},
		{"......#. 11 11 22 / - - - - -", [5]int{0, 0, 0, 4, 4}},
		{"........ 11 11 11 / c+ - - - -", [5]int{2, 3, 3, 5, 0}},
		{"........ 11 11 11 / t+@1 - - - -", [5]int{2, 3, 3, 5, 0}},
		{"..#..... 11 11 11 / ug2:xxx - - - -", [5]int{2, 3, 3, 0, 0}},
		{".##..... 11 11 11 / ug2:xxx - - - -", [5]int{2, 3, 3, 6, 0}},
		{"........ 22 22 22 / - c+ - - -", [5]int{3, 2, 0, 0, 5}},
		{"......#. 22 22 22 / - c+ - - -", [5]int{3, 2, 0, 4, 4}},
		{"........ 11 11 11 / - - c+ - -", [5]int{3, 0, 2, 0, 3}},
		{"........ 22 11 11 / - - - c+ -", [5]int{5, 0, 0, 2, 3}},
		{"...#.... 22 22 11 / - - - c+ -", [5]int{5, 4, 0, 2, 3}},
		{"...#.... 12 22 11 / - - - s -", [5]int{6, 4, 0, 2, 3}},
		{"........ 12 11 11 / - - - s -", [5]int{0, 5, 0, 2, 3}},
		{"........ 11 11 11 / - - - - c+", [5]int{0, 5, 3, 3, 2}},
	} {
		f := frameOf(t, p, c.text)
		if !impl.FrameOk(p, f) {
			t.Errorf("the test's own frame %s is none", c.text)
		}
		for way, want := range c.want {
			if got := impl.WhyNot(p, f, way); got != want {
				t.Errorf("%s: WhyNot of %d is %d, not %d", c.text, way, got, want)
			}
		}
		for _, way := range []int{farBelow, -1, 5, 1 << 32, farAbove} {
			if got := impl.WhyNot(p, f, way); got != 1 || !sameStays(impl.Blocked(p, f, way), impl.Stays{}) {
				t.Errorf("%s: something is told of way %d", c.text, way)
			}
		}
	}
}

func TestFrameBlocked(t *testing.T) {
	p := fork(t)
	for _, c := range []struct {
		text string
		way  int
		want impl.Stays
	}{
		{"........ 11 11 11 / - - - - -", 0, impl.Stays{}},
		{"........ 22 22 22 / - - - - -", 0, impl.Stays{}},
		{"######## 22 22 11 / - - - - -", 0, impl.Stays{Sections: []int{0, 1, 2, 4}, Points: []int{0, 1}}},
		{"######## 11 11 11 / - - - - -", 1, impl.Stays{Sections: []int{0, 1, 3}, Points: []int{0, 1, 2}}},
		{"######## 11 11 11 / - - - - -", 2, impl.Stays{Sections: []int{4}}},
		{"######## 11 11 11 / - - - - -", 3, impl.Stays{Sections: []int{5, 6}, Points: []int{0}}},
		{"######## 11 11 22 / - - - - -", 4, impl.Stays{Sections: []int{6}, Points: []int{2}}},
		{"........ 11 11 10 / - - - s s", 0, impl.Stays{}},
		{"........ 22 22 22 / - c+ c+ c+ -", 0, impl.Stays{Ways: []int{1, 2}, Points: []int{0, 1}}},
		{"........ 22 22 22 / - c+ c+ c+ -", 4, impl.Stays{Ways: []int{2, 3}, Points: []int{2}}},
		{"........ 22 22 22 / - - c+ c+ -", 4, impl.Stays{Ways: []int{2, 3}}},
		// of held ways
		{"........ 11 11 11 / c+ - - - -", 0, impl.Stays{}},
		{"........ 22 22 22 / - c+ c+ c+ -", 1, impl.Stays{}},
		{"####.... 22 22 11 / ug2:xxx - - - -", 0, impl.Stays{Sections: []int{0, 1, 2}, Points: []int{0, 1}}},
		{"..#..... 22 11 11 / ug2:xxx - - - -", 0, impl.Stays{Sections: []int{2}}},
		{"..#..... 22 11 11 / ug2:xxx - - c+ -", 0, impl.Stays{Sections: []int{2}, Points: []int{0}}},
		{"....#... 11 11 11 / t+@1 - u:x - -", 0, impl.Stays{Ways: []int{2}, Sections: []int{4}}},
		{"....#... 11 11 11 / t+@1 - u:x - -", 2, impl.Stays{Ways: []int{0}, Sections: []int{4}}},
		// a switch that the way itself wants, wanted otherwise
		{"........ 21 11 11 / s - - - -", 0, impl.Stays{Points: []int{0}}},
	} {
		f := frameOf(t, p, c.text)
		for _, itself := range []bool{false, true} {
			bar(&p, c.way, c.way, itself)
			if !impl.FrameOk(p, f) {
				t.Errorf("the test's own frame %s is none", c.text)
			}
			if got := impl.Blocked(p, f, c.way); !sameStays(got, c.want) {
				t.Errorf("%s: Blocked of %d is %v, not %v", c.text, c.way, got, c.want)
			}
		}
		bar(&p, c.way, c.way, false)
	}
}

package tests

import (
	"strconv"
	"testing"

	"loop.example/signalbox/impl"
)

func wantFrame(t *testing.T, what string, p impl.Plan, f impl.Frame, want bool) {
	t.Helper()
	if got := impl.FrameOk(p, f); got != want {
		t.Errorf("%s: %s: FrameOk is %v", what, frameText(f), got)
	}
}

func TestFrameOkTexts(t *testing.T) {
	p, itself := fork(t), fork(t)
	for i := range itself.Bars {
		bar(&itself, i, i, true)
	}
	for _, c := range []struct {
		text string
		want bool
	}{
		{"........ 11 11 11 / - - - - -", true},
		{"######## 11 11 11 / - - - - -", true},
		{"........ 10 22 12 / - - - - -", true},
		{"........ 11 11 11 / c+ - - - -", true},
		{"........ 11 11 11 / s - - - -", false},
		{"........ 11 11 11 / s+ - - - -", false},
		{"........ 11 11 22 / c+ - - - -", true},
		// a switch on way 0 or beside it that is wanted or known otherwise
		{"........ 21 11 11 / s - - - -", true},
		{"........ 21 11 11 / s+ - - - -", true},
		{"........ 21 11 11 / c+ - - - -", false},
		{"........ 12 11 11 / s - - - -", true},
		{"........ 12 11 11 / c+ - - - -", false},
		{"........ 10 11 11 / s+ - - - -", true},
		{"........ 10 11 11 / c+ - - - -", false},
		{"........ 22 11 11 / s - - - -", true},
		{"........ 22 11 11 / c+ - - - -", false},
		{"........ 11 21 11 / s - - - -", true},
		{"........ 11 21 11 / c+ - - - -", false},
		{"........ 11 10 11 / s - - - -", true},
		{"........ 11 10 11 / c+ - - - -", false},
		// somebody in its sections, behind its end, ahead of its signal, elsewhere
		{"#....... 11 11 11 / s - - - -", false},
		{"#....... 11 11 11 / c+ - - - -", false},
		{"#....... 11 11 11 / t+@2 - - - -", false},
		{"#....... 11 11 11 / u:x.. - - - -", true},
		{".#...... 11 11 11 / s - - - -", true},
		{".#...... 11 11 11 / c+ - - - -", false},
		{"..#..... 11 11 11 / s+ - - - -", true},
		{"..#..... 11 11 11 / c+ - - - -", false},
		{"....#... 11 11 11 / s - - - -", true},
		{"....#... 11 11 11 / c+ - - - -", false},
		{"...#.### 11 11 11 / c+ - - - -", true},
		{"...#.### 11 11 11 / s - - - -", false},
		// one that is taken back
		{"........ 11 11 11 / t+@1 - - - -", true},
		{"........ 11 11 11 / t+@3 - - - -", true},
		{".#..##.# 20 12 11 / t+@3 - - - -", true},
		// one that is used
		{"........ 11 11 11 / u - - - -", true},
		{"........ 11 11 11 / u+ - - - -", true},
		{"#....... 11 11 11 / u - - - -", false},
		{"........ 11 11 11 / u:x.. - - - -", true},
		{"........ 11 11 11 / u:x.x - - - -", true},
		{"........ 11 11 11 / u:.xx - - - -", true},
		{"........ 11 11 11 / u:..x - - - -", true},
		{"........ 11 11 11 / u:xx. - - - -", false},
		{"........ 11 11 11 / ug1:xx. - - - -", true},
		{"........ 11 11 11 / ug1:x.. - - - -", true},
		{"........ 11 11 11 / ug1:x.x - - - -", true},
		{"........ 11 11 11 / ug1:xxx - - - -", false},
		{"........ 11 11 11 / ug2:xxx - - - -", false},
		{"........ 11 11 11 / ug2:xx. - - - -", true},
		{"........ 11 11 11 / u:xxx - - - -", false},
		{"#....... 11 11 11 / u:xxx - - - -", true},
		{".#...... 11 11 11 / u:xxx - - - -", false},
		{".#...... 11 11 11 / ug1:xxx - - - -", true},
		{".#...... 11 11 11 / ug1:xx. - - - -", true},
		{".#...... 11 11 11 / ug1:x.x - - - -", false},
		{"..#..... 11 11 11 / ug1:xxx - - - -", false},
		{"..#..... 11 11 11 / ug2:xxx - - - -", true},
		{"..#..... 11 11 11 / ug2:xx. - - - -", false},
		{"#.#..... 11 11 11 / ug2:xxx - - - -", true},
		{"###..... 11 11 11 / ug2:xxx - - - -", true},
		{"###..... 22 20 11 / u+:xxx - - - -", true},
		// the first ones that were let go of, without the train
		{"........ 11 11 11 / ug1 - - - -", false},
		{"........ 11 11 11 / ug1:.x. - - - -", false},
		{"........ 11 11 11 / ug1:..x - - - -", false},
		{"........ 11 11 11 / ug2:.x. - - - -", false},
		{"........ 11 11 11 / ug2:x.. - - - -", false},
		{"..#..... 11 11 11 / ug2:x.x - - - -", false},
		{"..#..... 11 11 11 / ug2:.xx - - - -", false},
		{"........ 11 11 11 / ug3:xxx - - - -", false},
		{"..#..... 11 11 11 / ug3:xxx - - - -", false},
		// a way of one section
		{"....#... 11 11 11 / - - u:x - -", true},
		{"....#... 11 11 11 / - - u - -", false},
		{"........ 11 11 11 / - - u - -", true},
		{"........ 11 11 11 / - - u:x - -", false},
		{"....#... 11 11 11 / - - ug1:x - -", false},
		// several at once
		{"........ 22 22 22 / - c+ c+ s -", false},
		{"........ 22 22 22 / - c+ c+ c+ -", true},
		{"........ 12 22 22 / - s c+ s+ -", true},
		{"........ 12 22 22 / - s c+ c+ -", false},
		{"........ 12 22 22 / - c+ c+ s+ -", false},
		{"........ 11 11 11 / c+ - - - c+", true},
		{"........ 11 11 11 / c+ - c+ - -", true},
		{"........ 11 11 11 / - - - s c+", true},
		{"........ 22 11 11 / - - - c+ c+", true},
		// ways that exclude each other
		{"........ 11 11 11 / c+ s - - -", false},
		{"........ 22 22 22 / s c+ - - -", false},
		{"........ 11 11 11 / u:x.. s - - -", false},
		{"........ 11 11 11 / ug2:xx. t+@1 - - -", false},
		{"........ 11 11 11 / t+@1 t+@1 - - -", false},
		{"........ 11 11 11 / - - c+ - c+", false},
		{"........ 11 11 11 / - - t+@1 - u:x", false},
		{"........ 11 11 11 / - - t+@1 - u", false},
		{"........ 11 11 11 / - - t+@1 - -", true},
	} {
		wantFrame(t, "fork", p, frameOf(t, p, c.text), c.want)
		wantFrame(t, "its ways exclude themselves", itself, frameOf(t, p, c.text), c.want)
	}
}

func TestFrameOkSpoiled(t *testing.T) {
	p := fork(t)
	text := "..#..... 10 10 11 / ug2:xxx - t+@3 s -"
	wantFrame(t, "as it is", p, frameOf(t, p, text), true)
	for _, c := range []struct {
		what string
		do   func(*impl.Frame)
	}{
		{"not Ok", func(f *impl.Frame) { f.Ok = false }},
		{"no Occ", func(f *impl.Frame) { f.Occ = nil }},
		{"an Occ too few", func(f *impl.Frame) { f.Occ = f.Occ[:7] }},
		{"an Occ too many", func(f *impl.Frame) { f.Occ = append(f.Occ, false) }},
		{"no Points", func(f *impl.Frame) { f.Points = nil }},
		{"a Point too few", func(f *impl.Frame) { f.Points = f.Points[:2] }},
		{"a Point too many", func(f *impl.Frame) { f.Points = append(f.Points, impl.Point{Want: 1, Lies: 1}) }},
		{"no Ways", func(f *impl.Frame) { f.Ways = nil }},
		{"a way too few", func(f *impl.Frame) { f.Ways = f.Ways[:4] }},
		{"a way too many", func(f *impl.Frame) { f.Ways = append(f.Ways, impl.Held{}) }},
		{"a way too many, as it would begin", func(f *impl.Frame) { f.Ways = append(f.Ways, impl.Held{Been: []bool{false}}) }},
		{"State 5", func(f *impl.Frame) { f.Ways[1].State = 5 }},
		{"State -1", func(f *impl.Frame) { f.Ways[1].State = -1 }},
		{"State far above", func(f *impl.Frame) { f.Ways[4].State = farAbove }},
		{"State far below", func(f *impl.Frame) { f.Ways[4].State = farBelow }},
		{"State 1 << 32", func(f *impl.Frame) { f.Ways[4].State = 1 << 32 }},
	} {
		f := frameOf(t, p, text)
		c.do(&f)
		wantFrame(t, c.what, p, f, false)
	}
	for i := range 5 {
		f := frameOf(t, p, text)
		f.Ways[i].Been = nil
		wantFrame(t, "no Been", p, f, false)
		f = frameOf(t, p, text)
		f.Ways[i].Been = f.Ways[i].Been[:len(f.Ways[i].Been)-1]
		wantFrame(t, "a Been too few", p, f, false)
		for _, been := range []bool{false, true} {
			f = frameOf(t, p, text)
			f.Ways[i].Been = append(f.Ways[i].Been, been)
			wantFrame(t, "a Been too many", p, f, false)
		}
	}
	for k := range 3 {
		for _, number := range []int{farBelow, -1, 0, 1, 2, 3, 1<<32 + 1, farAbove} {
			f := frameOf(t, p, text)
			f.Points[k].Want = number
			wantFrame(t, "Want "+strconv.Itoa(number), p, f, number == 1 || number == 2)
			f = frameOf(t, p, text)
			f.Points[k].Lies = number
			wantFrame(t, "Lies "+strconv.Itoa(number), p, f, number >= 0 && number <= 2)
		}
	}
	for _, s := range planSpoils() {
		p := fork(t)
		s.do(&p)
		wantFrame(t, s.what, p, impl.BeginFrame(fork(t)), false)
		wantFrame(t, s.what, p, impl.Frame{}, false)
		wantFrame(t, s.what, p, impl.Frame{Ok: true}, false)
	}
	wantFrame(t, "the zero value", p, impl.Frame{}, false)
	wantFrame(t, "of another plan", p, impl.BeginFrame(lane(t, 3)), false)
}

// Each State with each of Gone, Been, Shown and Timer right and wrong, where nobody is anywhere, where somebody is behind the end of the way alone, and where somebody is in its first section.
func TestFrameOkStates(t *testing.T) {
	p := planOf(t, 4, "", 5, "", "0 1 2 | | | 3 |")
	timers := []int{farBelow, -1, 0, 1, 2, 5, 6, 1<<32 + 1, farAbove}
	gones := []int{farBelow, -1, 0, 1, 2, 3, 1 << 32, farAbove}
	right := map[int]int{}
	for _, occ := range []string{"....", "...#", "#..."} {
		for state := -1; state <= 5; state++ {
			for _, timer := range timers {
				for _, gone := range gones {
					for been := range 8 {
						for _, shown := range []bool{false, true} {
							h := impl.Held{State: state, Gone: gone, Been: []bool{been&1 > 0, been&2 > 0, been&4 > 0}, Shown: shown, Timer: timer}
							want := heldRight(h, occ)
							if want {
								right[state]++
							}
							wantFrame(t, "one way", p, impl.Frame{Ok: true, Occ: flagsOf(occ, "#"), Ways: []impl.Held{h}}, want)
						}
					}
				}
			}
		}
	}
	for state, want := range map[int]int{-1: 0, 0: 3, 1: 2, 2: 1, 3: 6, 4: 56, 5: 0} {
		if right[state] != want {
			t.Errorf("%d right ways with State %d, not %d", right[state], state, want)
		}
	}
}

// heldRight is of the one way of TestFrameOkStates, written out.
func heldRight(h impl.Held, occ string) bool {
	fresh := h.Gone == 0 && heldText(impl.Held{Been: h.Been}) == "-"
	entered := occ == "#..."
	switch h.State {
	case impl.WIdle:
		return fresh && !h.Shown && h.Timer == 0
	case impl.WSet:
		return fresh && h.Timer == 0 && occ == "...#"
	case impl.WClear:
		return fresh && h.Shown && h.Timer == 0 && occ == "...."
	case impl.WTaking:
		return fresh && h.Shown && (h.Timer == 1 || h.Timer == 2 || h.Timer == 5) && !entered
	case impl.WUsed:
		if h.Timer != 0 {
			return false
		}
		been := flagsText(h.Been, ".", "x")
		switch h.Gone {
		case 0:
			if entered {
				return been[0] == 'x'
			}
			return been[:2] != "xx"
		case 1:
			return been == "x.." || been == "x.x" || been == "xx."
		case 2:
			return been == "xx."
		}
	}
	return false
}

func TestFrameOkTimer(t *testing.T) {
	for _, hold := range []int{1, 2, 3, 299, 300} {
		p := lane(t, hold)
		for _, timer := range []int{farBelow, -1, 0, 1, hold - 1, hold, hold + 1, 300, 301, farAbove} {
			f := impl.BeginFrame(p)
			f.Ways[0].State, f.Ways[0].Shown, f.Ways[0].Timer = impl.WTaking, true, timer
			wantFrame(t, "Hold "+strconv.Itoa(hold), p, f, timer >= 1 && timer <= hold)
			f.Ways[0].Shown = false
			wantFrame(t, "not Shown", p, f, false)
		}
	}
}

func TestFrameOkGreat(t *testing.T) {
	p := great(100)
	for _, way := range []int{0, 1, 57, 99} {
		f := impl.BeginFrame(p)
		for k := range f.Points {
			f.Points[k] = impl.Point{Want: 1 + k%2, Lies: 1 + k%2}
		}
		f.Ways[way].State, f.Ways[way].Shown = impl.WClear, true
		wantFrame(t, "clear", p, f, true)
		f.Occ[59] = true
		wantFrame(t, "the last of Over", p, f, false)
		f.Occ[59], f.Occ[29] = false, true
		wantFrame(t, "the last of Sections", p, f, false)
		f.Occ[29], f.Points[39].Lies = false, 0
		wantFrame(t, "the last of Flanks", p, f, false)
		f.Points[39].Lies, f.Points[29].Want = 2, 1
		wantFrame(t, "the last of Lies", p, f, false)
		f.Points[29].Want = 2
		wantFrame(t, "clear again", p, f, true)
		other := (way + 50) % 100
		f.Ways[other].State, f.Ways[other].Shown, f.Ways[other].Timer = impl.WTaking, true, 300
		wantFrame(t, "two that exclude each other", p, f, false)
		bar(&p, way, other, false)
		p.Ways[other].Sections, p.Ways[other].Lies, p.Ways[other].Over = from(30, 30), nil, from(0, 30)
		f.Ways[other].Been = make([]bool, 30)
		wantFrame(t, "each in the other's Over", p, f, true)
		p = great(100)
	}
}

package tests

import (
	"strconv"
	"strings"
	"testing"

	"loop.example/signalbox/impl"
)

type boxTick struct {
	happens string
	codes   string
	want    string
}

// wantTicks drives a site; what is wanted of each tick is told by tell.
func wantTicks(t *testing.T, what string, s impl.Site, tell func(impl.Shot) string, ticks []boxTick) {
	t.Helper()
	var script [][]impl.Happen
	for _, tick := range ticks {
		script = append(script, listOf(t, tick.happens))
	}
	shots := impl.Drive(s, script)
	if len(shots) != len(ticks) {
		t.Errorf("%s: %d shots of %d ticks", what, len(shots), len(ticks))
		return
	}
	slow := slowWorldOf(s).drive(script)
	for i, x := range shots {
		if got := numbersText(x.Codes); got != ticks[i].codes {
			t.Errorf("%s, tick %d: the codes of %s are %s, not %s", what, i, ticks[i].happens, got, ticks[i].codes)
		}
		if got := tell(x); got != ticks[i].want {
			t.Errorf("%s, tick %d, %s:\n%s\nnot\n%s", what, i, ticks[i].happens, got, ticks[i].want)
		}
		if shotText(s.Net, x) != shotText(s.Net, slow[i]) {
			t.Errorf("%s, tick %d: the shot is\n%s\nnot\n%s", what, i, shotText(s.Net, x), shotText(s.Net, slow[i]))
		}
	}
}

func framesOf(x impl.Shot) string { return frameText(x.Box.Frame) }

func TestTickTimers(t *testing.T) {
	for hold := 1; hold <= 4; hold++ {
		s := crossover(t)
		s.Hold = hold
		ticks := []boxTick{{"ask 0", "0", "#....#. 11 11 / c+ - - - - -"}, {"back 0", "0", ""}, {"", "", ""}, {"", "", ""}, {"", "", ""}, {"", "", ""}}
		for i := range ticks[1:] {
			held := "-"
			if left := hold - 1 - i; left > 0 {
				held = "t+@" + strconv.Itoa(left)
			}
			ticks[1+i].want = "#....#. 11 11 / " + held + " - - - - -"
		}
		wantTicks(t, "Hold "+strconv.Itoa(hold), s, framesOf, ticks)
	}
}

// Time passes before the frame is told: a way whose time is over is idle when somebody comes, one that has time left is used.
func TestTickTimeBeforeTelling(t *testing.T) {
	s := crossover(t)
	s.Hold = 2
	wantTicks(t, "its time is over", s, framesOf, []boxTick{
		{"ask 0", "0", "#....#. 11 11 / c+ - - - - -"},
		{"back 0", "0", "#....#. 11 11 / t+@1 - - - - -"},
		{"ghost 0 1", "0", "##...#. 11 11 / - - - - - -"},
	})
	s.Hold = 3
	wantTicks(t, "it has time left", s, framesOf, []boxTick{
		{"ask 0", "0", "#....#. 11 11 / c+ - - - - -"},
		{"back 0", "0", "#....#. 11 11 / t+@2 - - - - -"},
		{"ghost 0 1", "0", "##...#. 11 11 / u+:x. - - - - -"},
	})
}

// The frame is told before switches turn: a way whose last switch comes to lie just when somebody comes was never clear.
func TestTickTellingBeforeSwitches(t *testing.T) {
	s := passing(t)
	wantTicks(t, "nobody comes", s, framesOf, []boxTick{
		{"ask 1", "0", "....# 20 20 / - s - -"},
		{"", "", "....# 22 22 / - c+ - -"},
	})
	wantTicks(t, "somebody comes to the second section", s, framesOf, []boxTick{
		{"ask 1", "0", "....# 20 20 / - s - -"},
		{"ghost 2 1", "0", "..#.# 22 22 / - s - -"},
	})
	wantTicks(t, "somebody comes to the first section", s, framesOf, []boxTick{
		{"ask 1", "0", "....# 20 20 / - s - -"},
		{"ghost 0 1", "0", "#...# 22 22 / - u:x. - -"},
	})
}

// What is told is told twice: ahead of the signals, and behind the trains.
func TestTickTells(t *testing.T) {
	s := passing(t)
	tell := func(x impl.Shot) string {
		return aspectsText(x.Shows) + " " + flagsText(x.Box.Frame.Occ, ".", "#") + " " + trainText(s.Net, x.Box.Trains[0])
	}
	wantTicks(t, "a train that goes on", s, tell, []boxTick{
		{"ask 0, speed 0 30", "0 0", "100 ....# z80+ 20"},
		{"", "", "100 #.... a30+ 20"},
		{"", "", "000 #.... a60+ 20"},
		{"speed 0 50", "0", "000 ##... b10+ 20 a+"},
		{"speed 0 10", "0", "000 .#... b20+ 20"},
	})
	wantTicks(t, "a ghost stops the train in the same tick", s, tell, []boxTick{
		{"ask 0, ghost 0 1, speed 0 30", "0 0 0", "000 #...# z70+ 20"},
		{"", "", "000 #...# z70+ 20"},
	})
	wantTicks(t, "so does a dead counter", s, tell, []boxTick{
		{"ask 0, dead 5, speed 0 30", "0 0 0", "000 #...# z70+ 20"},
		{"alive 5", "0", "000 #...# z70+ 20"},
	})
	wantTicks(t, "so does one around a section farther on", s, tell, []boxTick{
		{"ask 0, dead 6, speed 0 30", "0 0 0", "000 .#..# z70+ 20"},
		{"alive 6, reset 1", "0 0", "000 .#..# z70+ 20"},
	})
}

func liesAndKnown(x impl.Shot) string {
	return numbersText(x.Box.Lies) + " | " + frameText(x.Box.Frame)
}

func TestTickSwitches(t *testing.T) {
	s := crossover(t)
	s.Fronts, s.Longs = nil, nil
	idle := " / - - - - - -"
	wantTicks(t, "turned by hand, and back", s, liesAndKnown, []boxTick{
		{"", "", "0 0 1 0 0 1 0 0 | ....... 11 11" + idle},
		{"hand 0 2", "0", "0 0 0 0 0 1 0 0 | ....... 20 11" + idle},
		{"", "", "0 0 2 0 0 1 0 0 | ....... 22 11" + idle},
		{"", "", "0 0 2 0 0 1 0 0 | ....... 22 11" + idle},
		{"hand 0 1, hand 1 2", "0 0", "0 0 0 0 0 0 0 0 | ....... 10 20" + idle},
		{"", "", "0 0 1 0 0 2 0 0 | ....... 11 22" + idle},
	})
	wantTicks(t, "wanted back while it turns", s, liesAndKnown, []boxTick{
		{"hand 0 2", "0", "0 0 0 0 0 1 0 0 | ....... 20 11" + idle},
		{"hand 0 1", "0", "0 0 1 0 0 1 0 0 | ....... 11 11" + idle},
		{"hand 0 2, hand 0 1", "0 0", "0 0 1 0 0 1 0 0 | ....... 11 11" + idle},
	})
	wantTicks(t, "stuck where it lies", s, liesAndKnown, []boxTick{
		{"stick 0, hand 0 2, hand 1 2", "0 0 0", "0 0 1 0 0 0 0 0 | ....... 21 20" + idle},
		{"", "", "0 0 1 0 0 2 0 0 | ....... 21 22" + idle},
		{"free 0", "0", "0 0 0 0 0 2 0 0 | ....... 20 22" + idle},
		{"", "", "0 0 2 0 0 2 0 0 | ....... 22 22" + idle},
	})
	wantTicks(t, "stuck while it turns", s, liesAndKnown, []boxTick{
		{"hand 1 2", "0", "0 0 1 0 0 0 0 0 | ....... 11 20" + idle},
		{"stick 1", "0", "0 0 1 0 0 0 0 0 | ....... 11 20" + idle},
		{"hand 1 1", "0", "0 0 1 0 0 0 0 0 | ....... 11 10" + idle},
		{"free 1", "0", "0 0 1 0 0 1 0 0 | ....... 11 11" + idle},
	})
	wantTicks(t, "by a way", s, liesAndKnown, []boxTick{
		{"ask 1", "0", "0 0 0 0 0 0 0 0 | ....... 20 20 / - s - - - -"},
		{"", "", "0 0 2 0 0 2 0 0 | ....... 22 22 / - c+ - - - -"},
		{"stick 0", "0", "0 0 2 0 0 2 0 0 | ....... 22 22 / - c+ - - - -"},
	})
	wantTicks(t, "by a way, one stuck", s, liesAndKnown, []boxTick{
		{"stick 1, ask 1", "0 0", "0 0 0 0 0 1 0 0 | ....... 20 21 / - s - - - -"},
		{"", "", "0 0 2 0 0 1 0 0 | ....... 22 21 / - s - - - -"},
		{"free 1", "0", "0 0 2 0 0 0 0 0 | ....... 22 20 / - s - - - -"},
		{"", "", "0 0 2 0 0 2 0 0 | ....... 22 22 / - c+ - - - -"},
	})
}

// A switch that is known otherwise than it lies: the frame learns of it, whether it is stuck or not.
func TestTickSwitchesKnownOtherwise(t *testing.T) {
	s := crossover(t)
	for _, c := range []struct {
		lies  int
		stuck bool
		point impl.Point
		want  string
	}{
		{1, true, impl.Point{Want: 1, Lies: 2}, "1 11"},
		{1, false, impl.Point{Want: 1, Lies: 2}, "1 11"},
		{1, true, impl.Point{Want: 2, Lies: 0}, "1 21"},
		{1, false, impl.Point{Want: 2, Lies: 1}, "0 20"},
		{1, false, impl.Point{Want: 2, Lies: 0}, "0 20"},
		{2, true, impl.Point{Want: 1, Lies: 1}, "2 12"},
		{2, false, impl.Point{Want: 1, Lies: 1}, "0 10"},
		{0, true, impl.Point{Want: 2, Lies: 2}, "0 20"},
		{0, false, impl.Point{Want: 2, Lies: 2}, "2 22"},
		{0, false, impl.Point{Want: 1, Lies: 2}, "1 11"},
	} {
		b := impl.Start(s)
		b.Lies[2], b.Stuck[0], b.Frame.Points[0] = c.lies, c.stuck, c.point
		x := wantSlowTick(t, slowWorldOf(s), s, b, nil)
		p := x.Box.Frame.Points[0]
		if got := strconv.Itoa(x.Box.Lies[2]) + " " + strconv.Itoa(p.Want) + strconv.Itoa(p.Lies); got != c.want {
			t.Errorf("%v: %s", c, got)
		}
	}
}

// steps is a line of pieces of 20, with a signal near the end of each but the last, and a train at the first one.
func steps(t *testing.T, pieces int) impl.Site {
	t.Helper()
	s := impl.Site{Net: line(pieces), Hold: 3, Fronts: []impl.Spot{{Piece: 0, At: 15, Way: 1}}, Longs: []int{5}}
	for p := range pieces {
		s.Net.Pieces[p].Name, s.Net.Pieces[p].Len = string(rune('a'+p)), 20
		if p < pieces-1 {
			s.Signals = append(s.Signals, post(p, p, 15, 1))
		}
	}
	return s
}

func TestTickShows(t *testing.T) {
	s := steps(t, 6)
	tell := func(x impl.Shot) string { return aspectsText(x.Shows) }
	wantTicks(t, "one way after the other", s, tell, []boxTick{
		{"", "", "00000"},
		{"ask 4", "0", "00001"},
		{"ask 3", "0", "00021"},
		{"ask 2", "0", "00321"},
		{"ask 0", "0", "10321"},
		{"ask 1", "0", "33321"},
		{"lamp 1 3", "0", "32321"},
		{"lamp 1 2", "0", "21321"},
		{"lamp 1 1", "0", "10321"},
		{"lamp 1 0", "0", "0x321"},
		{"lamp 0 0", "0", "xx321"},
		{"bulbs 1, bulbs 0", "0 0", "33321"},
		{"back 3", "0", "32101"},
		{"lamp 4 0, lamp 4 1", "0 0", "3210x"},
	})
	wantTicks(t, "what is asked for and what breaks in the tick shows in it", s, tell, []boxTick{
		{"ask 0, ask 1, lamp 0 1, lamp 2 0", "0 0 0 0", "00x00"},
		{"bulbs 2", "0", "21000"},
		{"bulbs 0, ask 2", "0 0", "32100"},
	})
}

// movesText is how far trains came, where they are, which may go on, and what was counted.
func movesText(n impl.Net, x impl.Shot) string {
	words := []string{numbersText(x.Fars)}
	var trains []string
	for _, train := range x.Box.Trains {
		trains = append(trains, trainText(n, train))
	}
	return strings.Join(append(words, strings.Join(trains, ", "), flagsText(x.Box.Free, ".", "x"), countText(x.Box.Count)), " | ")
}

func wantMoves(t *testing.T, what string, s impl.Site, b impl.Box, list, want string) impl.Shot {
	t.Helper()
	x := wantSlowTick(t, slowWorldOf(s), s, b, listOf(t, list))
	if got := movesText(s.Net, x); got != want {
		t.Errorf("%s: it moves to\n%s\nnot\n%s", what, got, want)
	}
	if len(x.Bad) > 0 || len(x.Struck) > 0 {
		t.Errorf("%s: bad %v, struck %v", what, x.Bad, x.Struck)
	}
	return x
}

func TestTickMovesAtSignals(t *testing.T) {
	s := steps(t, 3)
	s.Fronts[0].At = 10
	b := impl.Start(s)
	wantMoves(t, "speed 0", s, b, "speed 0 0, ask 0", "0 | a10+ 5 | . | #2+ .0 .0")
	wantMoves(t, "speed 1", s, b, "speed 0 1", "1 | a11+ 5 | . | #2+ .0 .0")
	wantMoves(t, "just up to it", s, b, "speed 0 5, ask 0", "5 | a15+ 5 | . | #2+ .0 .0")
	wantMoves(t, "it shows stop", s, b, "speed 0 6", "5 | a15+ 5 | . | #2+ .0 .0")
	wantMoves(t, "it is dark", s, b, "speed 0 6, ask 0, lamp 0 0, lamp 0 1, lamp 0 2, lamp 0 3", "5 | a15+ 5 | . | #2+ .0 .0")
	wantMoves(t, "it shows more, by one", s, b, "speed 0 6, ask 0", "6 | a16+ 5 | x | #2+ .0 .0")
	wantMoves(t, "as far as the next one, by one less", s, b, "speed 0 24, ask 0", "24 | b14+ 5 | x | .0- #2+ .0")
	wantMoves(t, "as far as the next one", s, b, "speed 0 200, ask 0", "25 | b15+ 5 | x | .0- #2+ .0")
	wantMoves(t, "both show more", s, b, "speed 0 200, ask 0, ask 1", "50 | c20+ 5 | x | .0- .0- #2+")
	wantMoves(t, "the second alone shows more", s, b, "speed 0 200, ask 1", "5 | a15+ 5 | . | #2+ .0 .0")
	at := boxBehind(t, s, "speed 0 5")
	wantMoves(t, "at one that shows stop", s, at, "", "0 | a15+ 5 | . | #2+ .0 .0")
	wantMoves(t, "at one that is dark", s, at, "ask 0, lamp 0 0, lamp 0 1", "0 | a15+ 5 | . | #2+ .0 .0")
	wantMoves(t, "at one that shows more", s, at, "ask 0", "5 | a20+ 5 | x | #2+ .0 .0")
	wantMoves(t, "at one that shows more, speed 0", s, at, "ask 0, speed 0 0", "0 | a15+ 5 | . | #2+ .0 .0")
	b.Free[0] = true
	wantMoves(t, "leave does not help at a signal", s, b, "speed 0 30", "5 | a15+ 5 | x | #2+ .0 .0")
}

func TestTickMovesPastSignalsThatLookAway(t *testing.T) {
	n := netOf(t, "a20 b20", "end a0\nplain a1 b0\nend b1")
	s := siteOf(t, n, "a10- a15+ b10-", "a5+/3")
	b := impl.Start(s)
	wantMoves(t, "one that looks the other way", s, b, "speed 0 8", "8 | a13+ 3 | . | #2+ .0")
	wantMoves(t, "and one that looks its way", s, b, "speed 0 18", "10 | a15+ 3 | . | #2+ .0")
	wantMoves(t, "on another piece", s, b, "speed 0 40, ask 0", "35 | b20+ 3 | x | .0- #2+")
	wantMoves(t, "just at one that looks the other way", s, boxBehind(t, s, "speed 0 5"), "speed 0 2", "2 | a12+ 3 | . | #2+ .0")
}

// A signal that was passed in this tick stops whoever comes to it, whatever it shows.
func TestTickMovesAtASignalThatWasPassed(t *testing.T) {
	n := netOf(t, "a10 b10 c10", "plain a1 b0\nplain b1 c0\nplain c1 a0")
	s := siteOf(t, n, "a5+ b5+ c5+", "a5+/3")
	all := "ask 0, ask 1, ask 2"
	b := impl.Start(s)
	wantCodes(t, "round", s, b, all, "0 0 4")
	wantMoves(t, "as far as the ways are set", s, b, "ask 0, ask 1, speed 0 200", "20 | c5+ 3 | x | .0- .0- #2+")
	// By hand: nobody is told to be on a, so that all three ways are clear.
	b.Count, b.Frame.Occ = impl.BeginCount(impl.LayoutOf(s)), make([]bool, 3)
	b.Count.Sections[0].Last = 1
	x := wantMoves(t, "round to the signal that it has passed itself", s, b, all+", speed 0 200", "30 | a5+ 3 | x | #0L+ .0- .0-")
	if got := aspectsText(x.Shows); got != "333" {
		t.Errorf("round: the signals show %s", got)
	}
	wantMoves(t, "one less", s, b, all+", speed 0 29", "29 | a4+ 3 | x | #0L+ .0- .0-")
	wantMoves(t, "one more", s, b, all+", speed 0 31", "30 | a5+ 3 | x | #0L+ .0- .0-")
	wantMoves(t, "in the next tick it goes on, as far as ways are clear", s, x.Box, "", "20 | c5+ 3 | x | #-2L- .0- #2+")
}

func TestTickMovesBehindAnotherTrain(t *testing.T) {
	n := netOf(t, "a10 b10 c20 d20", "end a0\nplain a1 b0\nplain b1 c0\nplain c1 d0\nend d1")
	s := siteOf(t, n, "b5+ c15+", "b5+/3 a8+/3")
	b := impl.Start(s)
	b.Free[1] = true
	wantMoves(t, "behind one that has passed the signal", s, b, "ask 0, ask 1, speed 0 200, speed 1 200", "45 7 | d20+ 3, b5+ 3 | xx | .0- #2+ .0- #2+")
	wantMoves(t, "the first one does not pass it", s, b, "ask 1, speed 0 200, speed 1 1", "0 1 | b5+ 3, a9+ 3 | .x | #2+ #2+ .0 .0")
	// The other way round: the train behind comes first, and stops at the signal's piece by the signal that shows stop.
	s = siteOf(t, n, "b5+ c15+", "a8+/3 b5+/3")
	b = impl.Start(s)
	b.Free[0] = true
	wantMoves(t, "the one that passes it moves last", s, b, "ask 0, speed 0 1, speed 1 200", "1 20 | a9+ 3, c15+ 3 | xx | #2+ .0- #2+ .0")
	b.Trains[0] = trainOf(t, n, "b4+ 3")
	x := wantSlowTick(t, slowWorldOf(s), s, b, listOf(t, "ask 0, speed 0 200, speed 1 200"))
	if got := numbersText(x.Fars); got != "21 0" {
		t.Errorf("the one that stands at it moves last: %s far", got)
	}
}

func TestTickMovesAtEnds(t *testing.T) {
	n := netOf(t, "a20 b20", "end a0\nplain a1 b0\nend b1")
	s := siteOf(t, n, "", "a15+/3")
	b := impl.Start(s)
	wantMoves(t, "without leave", s, b, "speed 0 5", "5 | a20+ 3 | . | #2+ .0")
	wantMoves(t, "without leave, one more", s, b, "speed 0 6", "5 | a20+ 3 | . | #2+ .0")
	b.Free[0] = true
	wantMoves(t, "with leave", s, b, "speed 0 5", "5 | a20+ 3 | x | #2+ .0")
	wantMoves(t, "with leave, one more", s, b, "speed 0 6", "6 | b1+ 3 a+ | x | #1- #1+")
	wantMoves(t, "with leave, the tail is at the joint", s, b, "speed 0 7", "7 | b2+ 3 a+ | x | #1- #1+")
	wantMoves(t, "with leave, the tail is over the joint", s, b, "speed 0 8", "8 | b3+ 3 | x | .0- #2+")
	wantMoves(t, "to a buffer", s, b, "speed 0 25", "25 | b20+ 3 | x | .0- #2+")
	wantMoves(t, "to a buffer, and no farther", s, b, "speed 0 26", "25 | b20+ 3 | x | .0- #2+")
	s.Fronts[0] = spotAt(t, n, "b17+")
	wantMoves(t, "a buffer without leave", s, impl.Start(s), "speed 0 9", "3 | b20+ 3 | . | .0 #2+")
	s.Fronts[0] = spotAt(t, n, "b2-")
	b = impl.Start(s)
	wantMoves(t, "back, without leave", s, b, "speed 0 200", "2 | b0- 3 | . | .0 #2+")
	b.Free[0] = true
	wantMoves(t, "back, with leave", s, b, "speed 0 200", "22 | a0- 3 | x | #2+ .0-")
	// A front that is just where its piece begins is not at the end to which it looks.
	b.Free[0] = false
	b.Trains[0] = trainOf(t, n, "b0+ 3 a+")
	wantMoves(t, "where its piece begins", s, b, "speed 0 2", "2 | b2+ 3 a+ | . | .0 #2+")
}

// One of length 1 comes with its front and its tail to another piece at one unit; on pieces of length 1 at every unit.
func TestTickMovesFrontAndTailTogether(t *testing.T) {
	n := netOf(t, "a5 b5", "end a0\nplain a1 b0\nend b1")
	s := siteOf(t, n, "", "a5+/1")
	b := impl.Start(s)
	b.Free[0] = true
	wantMoves(t, "both at one unit", s, b, "speed 0 1", "1 | b1+ 1 | x | .0- #2+")
	wantMoves(t, "both at one unit, over a dead counter", s, b, "speed 0 1, dead 0", "1 | b1+ 1 | x | !2L+ !0L /0")
	n = netOf(t, "a1 b1 c1", "plain a1 b0\nplain b1 c0\nplain c1 a0")
	s = siteOf(t, n, "", "a1+/1")
	b = impl.Start(s)
	b.Free[0] = true
	wantMoves(t, "at every unit", s, b, "speed 0 2", "2 | c1+ 1 | x | .0- .0- #2+")
	wantMoves(t, "round", s, b, "speed 0 200", "200 | c1+ 1 | x | .0- .0- #2+")
}

// Two pieces with two joints between them, each with its counter: that one counts over which the train comes, by its From and To.
func TestTickMovesOverTheRightCounter(t *testing.T) {
	for _, c := range []struct {
		joints, train, behind string
		counter               int
	}{
		{"plain a1 b0\nplain b1 a0", "a10+/4", "b4+ 4", 0},
		{"plain b0 a1\nplain b1 a0", "a10+/4", "b4+ 4", 0},
		{"plain a1 b0\nplain b1 a0", "a0-/4", "b6- 4", 1},
		{"plain a1 b0\nplain a0 b1", "a0-/4", "b6- 4", 1},
	} {
		s := siteOf(t, netOf(t, "a10 b10", c.joints), "", c.train)
		b := impl.Start(s)
		b.Free[0] = true
		what := c.train + " over " + c.joints
		moved := "4 | " + c.behind + " | x | "
		dead := func(counter int) string { return "speed 0 4, dead " + strconv.Itoa(counter) }
		wantMoves(t, what, s, b, "speed 0 4", moved+".0- #2+")
		wantMoves(t, what+", that is dead", s, b, dead(c.counter), moved+"!2L+ !0L /"+strconv.Itoa(c.counter))
		wantMoves(t, what+", the other is dead", s, b, dead(1-c.counter), moved+"!0L- !2L+ /"+strconv.Itoa(1-c.counter))
	}
}

func TestTickMovesOverSwitchesAndCrossings(t *testing.T) {
	s := crossover(t)
	s.Signals = nil
	for _, c := range []struct {
		lies [2]int
		from string
		want string
		bad  string
	}{
		{[2]int{1, 1}, "b18+ 4", "4 | c2+ 4 b+ | .0 #-1L- #1+ .0 .0 .0 .0", ""},
		{[2]int{2, 1}, "b18+ 4", "4 | x2+ 4 b+ | .0 #-1L- .0 .0 .0 .0 #1+", ""},
		{[2]int{0, 1}, "b18+ 4", "2 | b20+ 4 | .0 .0 .0 .0 .0 .0 .0", "0"},
		{[2]int{1, 1}, "c2- 4", "4 | b18- 4 c- | .0 #1+ #-1L- .0 .0 .0 .0", ""},
		{[2]int{2, 1}, "c2- 4", "2 | c0- 4 | .0 .0 .0 .0 .0 .0 .0", "0"},
		{[2]int{0, 1}, "c2- 4", "2 | c0- 4 | .0 .0 .0 .0 .0 .0 .0", "0"},
		{[2]int{1, 1}, "x18+ 4", "2 | x20+ 4 | .0 .0 .0 .0 .0 .0 .0", "0"},
		{[2]int{1, 2}, "x18+ 4", "4 | e2+ 4 x+ | .0 .0 .0 .0 #1+ .0 #-1L-", ""},
		{[2]int{1, 2}, "e2- 4", "4 | x18- 4 e- | .0 .0 .0 .0 #-1L- .0 #1+", ""},
		{[2]int{1, 1}, "e2- 4", "4 | d18- 4 e- | .0 .0 .0 #1+ #-1L- .0 .0", ""},
		{[2]int{1, 1}, "c18+ 4", "2 | c20+ 4 | .0 .0 .0 .0 .0 .0 .0", ""},
		{[2]int{2, 1}, "c2+ 4 b+", "0 | c2+ 4 b+ | .0 .0 .0 .0 .0 .0 .0", "0"},
		{[2]int{0, 1}, "x2+ 4 b+", "0 | x2+ 4 b+ | .0 .0 .0 .0 .0 .0 .0", "0"},
	} {
		site := copySite(s)
		site.Fronts, site.Longs = site.Fronts[:1], site.Longs[:1]
		b := impl.Start(site)
		b.Count = impl.BeginCount(impl.LayoutOf(site))
		b.Frame.Occ = make([]bool, 7)
		b.Trains[0], b.Free[0], b.Speeds[0] = trainOf(t, s.Net, c.from), true, 4
		for k, j := range []int{2, 5} {
			// Stuck, so that they stay as they are.
			b.Lies[j], b.Stuck[k] = c.lies[k], true
		}
		x := wantSlowTick(t, slowWorldOf(site), site, b, nil)
		got := numbersText(x.Fars) + " | " + trainText(s.Net, x.Box.Trains[0]) + " | " + countText(x.Box.Count)
		if got != c.want || numbersText(x.Bad) != c.bad {
			t.Errorf("%s, with %v: %s, bad %v; not %s, bad %s", c.from, c.lies, got, x.Bad, c.want, c.bad)
		}
	}
	n := netOf(t, "a9 b9 c9 d9", "end a0\ncross a1 b0 c1 d0\nend b1\nend c0\nend d1")
	site := siteOf(t, n, "", "a9+/3 d0-/3")
	b := impl.Start(site)
	b.Free = []bool{true, true}
	wantMoves(t, "over a crossing", site, b, "speed 0 2, speed 1 3", "2 3 | b2+ 3 a+, c6- 3 | xx | #1- #1+ #2+ .0-")
}

// The switch lies as it does behind what turns it in this tick.
func TestTickMovesWithSwitchesAsTheyLieNow(t *testing.T) {
	s := crossover(t)
	s.Signals = nil
	s.Fronts, s.Longs = []impl.Spot{spotAt(t, s.Net, "c2-")}, s.Longs[:1]
	b := impl.Start(s)
	b.Free[0] = true
	x := wantSlowTick(t, slowWorldOf(s), s, b, listOf(t, "hand 0 2, speed 0 4"))
	if numbersText(x.Fars) != "2" || numbersText(x.Bad) != "0" {
		t.Errorf("it turns now: %s", shotText(s.Net, x))
	}
	b = x.Box
	x = wantSlowTick(t, slowWorldOf(s), s, b, listOf(t, "hand 0 1"))
	if numbersText(x.Fars) != "4" || numbersText(x.Bad) != "" {
		t.Errorf("it lies again: %s", shotText(s.Net, x))
	}
}

func TestTickTurnsAtEachPlace(t *testing.T) {
	s := steps(t, 3)
	s.Signals = append(s.Signals, post(5, 1, 5, -1), post(6, 0, 15, -1))
	s.Fronts[0].At = 10
	all := "ask 0, ask 1, "
	for _, c := range []struct {
		what, first, then, want string
	}{
		{"where it stood", "", "turn 0, speed 0 3", "3 | a2- 5 | . | #2+ .0 .0"},
		{"at a signal that shows stop", "speed 0 5", "turn 0", "5 | a5- 5 | . | #2+ .0 .0"},
		{"at a signal that shows more", "speed 0 5", all + "turn 0", "5 | a5- 5 | . | #2+ .0 .0"},
		{"behind a signal that it has passed", all + "speed 0 7", "turn 0, speed 0 30", "12 | a0- 5 | . | #2+ .0 .0"},
		{"at the end of its piece", all + "speed 0 10", "turn 0, speed 0 2", "0 | a15- 5 | . | #2+ .0 .0"},
		{"over two pieces", all + "speed 0 12", "turn 0, speed 0 30", "2 | a15- 5 | . | #2+ .0- .0"},
		{"just over the joint", all + "speed 0 15", "turn 0, speed 0 30", "0 | b0- 5 | . | .0- #2+ .0"},
		{"between signals", all + "speed 0 18", "turn 0, speed 0 30", "3 | b0- 5 | . | .0- #2+ .0"},
		{"at a buffer", all + "speed 0 200", "turn 0, speed 0 30", "15 | c0- 5 | . | .0- .0- #2+"},
		{"at a buffer, and again", all + "speed 0 200", "turn 0, turn 0, speed 0 30", "0 | c20+ 5 | . | .0- .0- #2+"},
	} {
		wantMoves(t, c.what, s, boxBehind(t, s, c.first), c.then, c.want)
	}
	// A train that turned goes on when a signal that looks its way lets it.
	s.Fronts[0] = spotAt(t, s.Net, "b10+")
	wantMoves(t, "past a signal that lets it go on", s, impl.Start(s), "turn 0, ask 2, speed 0 200", "10 | a15- 5 | x | #2+ .0- .0")
	s.Fronts[0] = spotAt(t, s.Net, "b14+")
	wantMoves(t, "up to a signal that does not", s, impl.Start(s), "turn 0, speed 0 200", "4 | b5- 5 | . | .0 #2+ .0")
}

// threeTrains is a line of three pieces, with three trains.
func threeTrains(t *testing.T) impl.Site {
	t.Helper()
	n := netOf(t, "a20 b20 c20", "end a0\nplain a1 b0\nplain b1 c0\nend c1")
	return siteOf(t, n, "", "a10+/5 b10+/5 c10+/5")
}

func TestTickStruck(t *testing.T) {
	s := threeTrains(t)
	for _, c := range []struct {
		trains [3]string
		want   string
	}{
		{[3]string{"a10+ 5", "b10+ 5", "c10+ 5"}, ""},
		{[3]string{"a10+ 5", "a10+ 5", "c10+ 5"}, "0 1"},
		{[3]string{"a10+ 5", "a15+ 5", "c10+ 5"}, "0 1"},
		{[3]string{"a10+ 5", "a16+ 5", "c10+ 5"}, ""},
		{[3]string{"a10+ 5", "a10- 5", "c10+ 5"}, "0 1"},
		{[3]string{"a10+ 5", "b10- 5", "a12+ 5"}, "0 2"},
		{[3]string{"c10+ 5", "b10- 5", "b12+ 5"}, "1 2"},
		{[3]string{"b2+ 5 a+", "a11- 5", "b4+ 5 a+"}, "0 2"},
		{[3]string{"b2+ 5 a+", "a15- 5", "b7+ 5"}, "0 1, 0 2"},
		{[3]string{"b7+ 5", "b2+ 5 a+", "a15- 5"}, "0 1, 1 2"},
		{[3]string{"a15- 5", "b7+ 5", "b2+ 5 a+"}, "0 2, 1 2"},
		{[3]string{"a10+ 5", "a10+ 5", "a10- 5"}, "0 1, 0 2, 1 2"},
		{[3]string{"a20+ 5", "b5+ 5", "c5+ 5"}, ""},
	} {
		b := impl.Start(s)
		for i, text := range c.trains {
			b.Trains[i] = trainOf(t, s.Net, text)
		}
		x := wantSlowTick(t, slowWorldOf(s), s, b, nil)
		if got := struckText(x.Struck); !x.Ok || got != c.want || len(x.Bad) != 0 {
			t.Errorf("%v: struck %s, not %s; bad %v", c.trains, got, c.want, x.Bad)
		}
	}
	// It is where they are at the end of the tick, and not on the way.
	b := impl.Start(s)
	b.Trains[1] = trainOf(t, s.Net, "a3+ 3")
	s.Longs[1] = 3
	x := wantSlowTick(t, slowWorldOf(s), s, b, listOf(t, "speed 1 200"))
	if struckText(x.Struck) != "" || numbersText(x.Fars) != "0 17 0" {
		t.Errorf("through another one: %s", shotText(s.Net, x))
	}
}

func TestTickBad(t *testing.T) {
	s := crossover(t)
	s.Signals = nil
	s.Fronts, s.Longs = append(s.Fronts, spotAt(t, s.Net, "d10+")), append(s.Longs, 4)
	for _, c := range []struct {
		trains    [3]string
		lies      [2]int
		speeds    []int
		bad, fars string
	}{
		{[3]string{"a10+ 4", "f10- 4", "d10+ 4"}, [2]int{1, 1}, []int{200, 200, 200}, "", "50 50 50"},
		{[3]string{"a10+ 4", "f10- 4", "d10+ 4"}, [2]int{1, 2}, []int{200, 200, 200}, "1 2", "50 50 10"},
		{[3]string{"a10+ 4", "f10- 4", "d10+ 4"}, [2]int{2, 1}, []int{200, 200, 200}, "0", "50 50 50"},
		{[3]string{"a10+ 4", "f10- 4", "d10+ 4"}, [2]int{0, 0}, []int{200, 200, 200}, "0 1 2", "30 30 10"},
		{[3]string{"a10+ 4", "f10- 4", "d10+ 4"}, [2]int{0, 0}, []int{30, 31, 10}, "1", "30 30 10"},
		{[3]string{"x20+ 4", "f10- 4", "x0- 4"}, [2]int{1, 1}, []int{1, 0, 1}, "0 2", "0 0 0"},
		{[3]string{"x20+ 4", "x18+ 4", "x0- 4"}, [2]int{1, 1}, []int{1, 2, 1}, "0 2", "0 2 0"},
		{[3]string{"x20+ 4", "x18+ 4", "x0- 4"}, [2]int{1, 1}, []int{1, 3, 1}, "0 1 2", "0 2 0"},
		{[3]string{"x20+ 4", "x18+ 4", "x0- 4"}, [2]int{1, 1}, []int{0, 0, 0}, "", "0 0 0"},
		{[3]string{"x1+ 4 b+", "x19- 4 e-", "d10+ 4"}, [2]int{1, 1}, []int{1, 1, 0}, "0 1", "0 0 0"},
		{[3]string{"c20+ 4", "f20+ 4", "d0- 4"}, [2]int{0, 2}, []int{9, 9, 9}, "", "0 0 0"},
	} {
		b := impl.Start(s)
		for i, text := range c.trains {
			b.Trains[i], b.Speeds[i], b.Free[i] = trainOf(t, s.Net, text), c.speeds[i], true
		}
		// Stuck, so that they stay as they are.
		b.Lies[2], b.Lies[5], b.Stuck = c.lies[0], c.lies[1], []bool{true, true}
		x := wantSlowTick(t, slowWorldOf(s), s, b, nil)
		if !x.Ok || numbersText(x.Bad) != c.bad || numbersText(x.Fars) != c.fars {
			t.Errorf("%v, with %v: bad %v, fars %v; not %s, %s", c.trains, c.lies, x.Bad, x.Fars, c.bad, c.fars)
		}
	}
}

// One that does not sit, at a signal that it could pass, has not passed it.
func TestTickBadAtASignal(t *testing.T) {
	n := netOf(t, "a9 b9 c9 d9", "end a0\nswitch a1 b0 c0\nplain b1 d0\nend c1\nend d1")
	s := siteOf(t, n, "b2+", "b2+/4")
	b := impl.Start(s)
	b.Lies[1], b.Stuck[0] = 2, true
	x := wantSlowTick(t, slowWorldOf(s), s, b, listOf(t, "ask 0, speed 0 3"))
	if numbersText(x.Codes) != "0 0" || aspectsText(x.Shows) != "1" || numbersText(x.Bad) != "0" || x.Box.Free[0] || numbersText(x.Fars) != "0" {
		t.Errorf("it does not sit: %s", shotText(n, x))
	}
}

func TestTickFars(t *testing.T) {
	s := threeTrains(t)
	b := impl.Start(s)
	wantMoves(t, "each its own", s, b, "speed 0 1, speed 1 0, speed 2 3", "1 0 3 | a11+ 5, b10+ 5, c13+ 5 | ... | #2+ #2+ #2+")
	wantMoves(t, "up to the end", s, b, "speed 0 200, speed 1 9, speed 2 11", "10 9 10 | a20+ 5, b19+ 5, c20+ 5 | ... | #2+ #2+ #2+")
	s.Fronts, s.Longs = nil, nil
	wantMoves(t, "no trains", s, impl.Start(s), "", " |  |  | .0 .0 .0")
}

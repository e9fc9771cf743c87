package tests

import (
	"slices"
	"strconv"
	"strings"
	"testing"

	"loop.example/signalbox/impl"
)

// wantCodes does one tick; what it answers is held against the slow reading too.
func wantCodes(t *testing.T, what string, s impl.Site, b impl.Box, list, codes string) impl.Shot {
	t.Helper()
	x := impl.Tick(s, b, listOf(t, list))
	if got := numbersText(x.Codes); !x.Ok || got != codes {
		t.Errorf("%s: the codes of %s are %s, not %s", what, list, got, codes)
	}
	wantSlowTick(t, slowWorldOf(s), s, b, listOf(t, list))
	return x
}

// wantNothing asks that a tick with this has the code, and is otherwise as if nothing had happened.
func wantNothing(t *testing.T, what string, s impl.Site, b impl.Box, x impl.Happen, code int) {
	t.Helper()
	got, none := impl.Tick(s, b, []impl.Happen{x}), impl.Tick(s, b, nil)
	if !got.Ok || !slices.Equal(got.Codes, []int{code}) {
		t.Errorf("%s: the code of %v is %v, not %d", what, x, got.Codes, code)
	}
	got.Codes = nil
	if shotText(s.Net, got) != shotText(s.Net, none) {
		t.Errorf("%s: %v did something:\n%s\nnot\n%s", what, x, shotText(s.Net, got), shotText(s.Net, none))
	}
}

// manyOf is how many there are of what each Op is of, in the crossover.
func manyOf() map[int]int {
	return map[int]int{1: 6, 2: 6, 3: 2, 4: 2, 5: 2, 6: 4, 7: 4, 8: 13, 9: 13, 10: 13, 11: 7, 12: 2, 13: 2}
}

// namedN are those that the table names for an Op, 0 where it names none.
func namedN(op int) []int {
	switch op {
	case impl.HHand:
		return []int{1, 2}
	case impl.HLamp:
		return []int{0, 1, 2, 3}
	case impl.HGhost:
		return []int{1, -1}
	case impl.HSpeed:
		return from(0, 201)
	}
	return []int{0}
}

func oddNumbers() []int {
	return []int{farBelow, farBelow + 1, -129, -128, -127, -126, -123, -64, -2, -1, 0, 1, 2, 3, 4, 5, 6, 7, 12, 13, 14, 64, 65, 127, 128, 129, 133, 199, 200, 201, 202, 256, 261, farAbove - 1, farAbove}
}

func TestHappensNothing(t *testing.T) {
	s, b := busy(t)
	for _, op := range append(oddNumbers(), 8, 9, 10, 11) {
		for _, of := range oddNumbers() {
			for _, n := range oddNumbers() {
				isThere := of >= 0 && of < manyOf()[op]
				switch {
				case op == impl.HReset && (of == 0 || of == 1 || of == 5):
					wantNothing(t, "a section with a train", s, b, impl.Happen{Op: op, Of: of, N: n}, 9)
				case !isThere && (n == 0 || n == 1 || of == -1 || of == manyOf()[op]), isThere && !slices.Contains(namedN(op), n):
					wantNothing(t, "nothing that there is", s, b, impl.Happen{Op: op, Of: of, N: n}, 1)
				}
			}
		}
	}
}

// The first and the last of each, and each N, by itself: none has Code 1.
func TestHappensEach(t *testing.T) {
	s, b := busy(t)
	w := slowWorldOf(s)
	for op, many := range manyOf() {
		for _, of := range []int{0, many - 1} {
			for _, n := range namedN(op) {
				x := wantSlowTick(t, w, s, b, []impl.Happen{{Op: op, Of: of, N: n}})
				if x.Codes[0] == 1 {
					t.Errorf("%d of %d, %d: Code 1", op, of, n)
				}
			}
		}
	}
}

func TestHappensAskAndBack(t *testing.T) {
	s := crossover(t)
	b := impl.Start(s)
	x := wantCodes(t, "a way", s, b, "ask 0", "0")
	if got := frameText(x.Box.Frame); got != "#....#. 11 11 / c+ - - - - -" {
		t.Errorf("ask 0: %s", got)
	}
	wantCodes(t, "no way", s, b, "ask -1, ask 6, ask 0 1, back -1, back 6, back 0 1", "1 1 1 1 1 1")
	wantCodes(t, "held", s, b, "ask 0, ask 0", "0 2")
	wantCodes(t, "excluded", s, b, "ask 0, ask 5, ask 1", "0 3 3")
	wantCodes(t, "somebody is there", s, b, "ask 2, ask 4", "4 4")
	wantCodes(t, "nothing to take back", s, b, "back 0, ask 0, back 0, back 0", "2 0 0 2")
	x = wantCodes(t, "taken back, never shown", s, boxBehind(t, s, "hand 0 2", ""), "ask 3, back 3", "0 0")
	if got := frameText(x.Box.Frame); got != "#....#. 10 11 / - - - - - -" {
		t.Errorf("taken back, never shown: %s", got)
	}
	x = wantCodes(t, "taken back, with its train near", s, boxBehind(t, s, "ask 0"), "back 0", "0")
	if got := frameText(x.Box.Frame); got != "#....#. 11 11 / t+@4 - - - - -" {
		t.Errorf("taken back, with its train near: %s", got)
	}
	empty := crossover(t)
	empty.Fronts, empty.Longs = nil, nil
	x = wantCodes(t, "taken back, with nobody near", empty, boxBehind(t, empty, "ask 5"), "back 5", "0")
	if got := frameText(x.Box.Frame); got != "....... 11 11 / - - - - - -" {
		t.Errorf("taken back, with nobody near: %s", got)
	}
	wantCodes(t, "neither set nor clear", s, boxBehind(t, s, "ask 0", "back 0"), "back 0", "2")
	used, again := busy(t)
	wantCodes(t, "a way that is used", used, again, "back 0, ask 0", "2 2")
}

// A switch that is wanted otherwise, by another way and under somebody. The frame is made by hand: in a run ways that want one switch in two ways exclude each other.
func TestHappensAskForSwitches(t *testing.T) {
	s := crossover(t)
	s.Fronts, s.Longs = nil, nil
	b := impl.Start(s)
	b.Frame.Points[0].Want = 2
	b.Frame.Ways[0] = impl.Held{State: impl.WSet, Been: make([]bool, 2)}
	wantCodes(t, "wanted by another way", s, b, "ask 2", "5")
	wantCodes(t, "wanted by another way", s, b, "hand 0 1, hand 0 2, hand 1 2", "2 2 2")
	s = crossover(t)
	s.Fronts[1] = spotAt(t, s.Net, "e15-")
	b = impl.Start(s)
	b.Frame.Points[1].Want = 2
	wantCodes(t, "somebody is under it", s, b, "ask 0", "6")
	wantCodes(t, "somebody is under it", s, b, "hand 1 1, hand 1 2", "3 3")
}

func TestHappensHand(t *testing.T) {
	s := crossover(t)
	b := impl.Start(s)
	x := wantCodes(t, "turned by hand", s, b, "hand 0 2, hand 1 1", "0 0")
	if got := frameText(x.Box.Frame); got != "#....#. 20 11 / - - - - - -" {
		t.Errorf("turned by hand: %s", got)
	}
	wantCodes(t, "no switch, no lie", s, b, "hand -1 1, hand 2 1, hand 0 0, hand 0 3, hand 0 -1", "1 1 1 1 1")
	wantCodes(t, "a way wants it", s, b, "ask 0, hand 0 2, hand 1 1", "0 2 2")
	wantCodes(t, "no way wants it any more", s, b, "ask 0, hand 0 2, back 0, hand 0 2", "0 2 0 2")
	s.Fronts[1] = spotAt(t, s.Net, "e15-")
	wantCodes(t, "somebody is in its section", s, impl.Start(s), "hand 1 2, hand 0 2", "3 0")
}

func TestHappensSwitchesAndLamps(t *testing.T) {
	s := crossover(t)
	b := impl.Start(s)
	stuck := func(list, codes, want string) {
		t.Helper()
		if got := flagsText(wantCodes(t, "switches", s, b, list, codes).Box.Stuck, ".", "x"); got != want {
			t.Errorf("%s: stuck are %s, not %s", list, got, want)
		}
	}
	stuck("stick 0", "0", "x.")
	stuck("stick 1, stick 1", "0 0", ".x")
	stuck("stick 0, stick 1, free 0", "0 0 0", ".x")
	stuck("free 0, free 1", "0 0", "..")
	stuck("stick -1, stick 2, stick 0 1, free -1, free 2, free 1 -1", "1 1 1 1 1 1", "..")
	lamps := func(list, codes, want string) {
		t.Helper()
		if got := lampsText(wantCodes(t, "lamps", s, b, list, codes).Box.Works); got != want {
			t.Errorf("%s: the lamps are %s, not %s", list, got, want)
		}
	}
	lamps("lamp 0 0", "0", "x... .... .... ....")
	lamps("lamp 3 3, lamp 3 3", "0 0", ".... .... .... ...x")
	lamps("lamp 1 1, lamp 1 2, lamp 2 0", "0 0 0", ".... .xx. x... ....")
	lamps("lamp 1 1, lamp 2 2, bulbs 1", "0 0 0", ".... .... ..x. ....")
	lamps("lamp 1 0, lamp 1 1, lamp 1 2, lamp 1 3, bulbs 1, lamp 1 2", "0 0 0 0 0 0", ".... ..x. .... ....")
	lamps("lamp -1 0, lamp 4 0, lamp 0 -1, lamp 0 4", "1 1 1 1", ".... .... .... ....")
	lamps("bulbs 0, bulbs 3, bulbs -1, bulbs 4, bulbs 0 1", "0 0 1 1 1", ".... .... .... ....")
}

func TestHappensCounters(t *testing.T) {
	s := crossover(t)
	b := impl.Start(s)
	count := func(what string, b impl.Box, list, codes, want string) {
		t.Helper()
		if got := countText(wantCodes(t, what, s, b, list, codes).Box.Count); got != want {
			t.Errorf("%s: %s is %s, not %s", what, list, got, want)
		}
	}
	count("a ghost", b, "ghost 1 1", "0", "#2+ .0 #1+ .0 .0 #2+ .0")
	count("a ghost, the other way", b, "ghost 1 -1", "0", "#2+ #1+ .0 .0 .0 #2+ .0")
	count("a ghost from outside, and to it", b, "ghost 8 1, ghost 9 -1", "0 0", "#2+ .0 #1+ .0 .0 #2+ .0")
	count("no ghost", b, "ghost -1 1, ghost 13 1, ghost 0 0, ghost 0 2, ghost 0 -2", "1 1 1 1 1", "#2+ .0 .0 .0 .0 #2+ .0")
	count("dead", b, "dead 1", "0", "#2+ !0L !0L .0 .0 #2+ .0 /1")
	count("dead, to outside", b, "dead 12, dead 12", "0 0", "#2+ .0 .0 .0 .0 #2+ !0L /12")
	count("dead, and a ghost", b, "dead 1, ghost 1 1, ghost 2 1", "0 2 0", "#2+ !0L !0L .0 .0 #2+ #1+ /1")
	count("alive again", b, "dead 1, alive 1, ghost 1 1, alive 2", "0 0 0 0", "#2+ #0L #1L+ .0 .0 #2+ .0")
	count("none dead, none alive", b, "dead -1, dead 13, dead 0 1, alive -1, alive 13, alive 0 1", "1 1 1 1 1 1", "#2+ .0 .0 .0 .0 #2+ .0")
	count("reset", b, "dead 2, alive 2, reset 1", "0 0 0", "#2+ ~0S .0 .0 .0 #2+ #0L")
	count("reset, one around it is dead", b, "dead 2, reset 1, reset 6, reset 2", "0 3 3 0", "#2+ !0L ~0S .0 .0 #2+ !0L /2")
	count("reset, the last one came in", b, "ghost 1 1, reset 2, ghost 1 -1, reset 1", "0 4 0 4", "#2+ #1+ #1+ .0 .0 #2+ .0")
	count("no section", b, "reset -1, reset 7, reset 1 1, reset 1 -1", "1 1 1 1", "#2+ .0 .0 .0 .0 #2+ .0")
}

func TestHappensResetUnderATrain(t *testing.T) {
	s := crossover(t)
	s.Fronts[0] = spotAt(t, s.Net, "b2+")
	b := impl.Start(s)
	for _, n := range []int{farBelow, -1, 0, 1, 2, farAbove} {
		wantNothing(t, "the front", s, b, impl.Happen{Op: impl.HReset, Of: 1, N: n}, 9)
		wantNothing(t, "a part of the body", s, b, impl.Happen{Op: impl.HReset, Of: 0, N: n}, 9)
		wantNothing(t, "all of the body", s, b, impl.Happen{Op: impl.HReset, Of: 5, N: n}, 9)
		if n != 0 {
			wantNothing(t, "nobody", s, b, impl.Happen{Op: impl.HReset, Of: 2, N: n}, 1)
		}
		for _, of := range []int{128, 129, 133, -128, -127, -123, 7, -1} {
			wantNothing(t, "no section", s, b, impl.Happen{Op: impl.HReset, Of: of, N: n}, 1)
		}
	}
	x := wantCodes(t, "nobody", s, b, "reset 2", "0")
	if x.Box.Count.Sections[2].Told != impl.Sweeping {
		t.Errorf("nobody: %s", countText(x.Box.Count))
	}
	// A front that is just where its piece begins is on it, with nothing of the body; when it turns it is not.
	b.Trains[0] = trainOf(t, s.Net, "b0+ 4 a+")
	wantCodes(t, "a front alone", s, b, "reset 1, reset 0, turn 0, reset 0, reset 1", "9 9 0 9 4")
	// Dead counters do not come ahead of it, and what happened to the train before does.
	wantCodes(t, "dead around it", s, b, "dead 0, reset 0, reset 1, reset 2", "0 9 9 0")
	s = passing(t)
	s.Fronts[0] = spotAt(t, s.Net, "a5+")
	wantCodes(t, "it turned", s, impl.Start(s), "reset 0, reset 4, turn 0, reset 0, reset 4", "9 9 0 9 9")
}

func TestHappensTrains(t *testing.T) {
	s := crossover(t)
	s.Fronts[0] = spotAt(t, s.Net, "b2+")
	b := impl.Start(s)
	b.Free = []bool{true, true}
	trains := func(list, codes, want string) {
		t.Helper()
		got := wantCodes(t, "trains", s, b, list, codes).Box
		text := trainText(s.Net, got.Trains[0]) + ", " + trainText(s.Net, got.Trains[1]) + "; " + flagsText(got.Free, ".", "x") + "; " + numbersText(got.Speeds)
		if text != want {
			t.Errorf("%s: the trains are %s, not %s", list, text, want)
		}
	}
	trains("", "", "b2+ 4 a+, f10- 4; xx; 0 0")
	trains("speed 0 1, speed 0 0", "0 0", "b2+ 4 a+, f10- 4; xx; 0 0")
	trains("speed 1 2", "0", "b2+ 4 a+, f8- 4; xx; 0 2")
	trains("speed 0 200", "0", "c20+ 4, f10- 4; xx; 200 0")
	trains("speed -1 1, speed 2 1, speed 0 -1, speed 0 201", "1 1 1 1", "b2+ 4 a+, f10- 4; xx; 0 0")
	trains("turn 0", "0", "a18- 4 b-, f10- 4; .x; 0 0")
	trains("turn 1", "0", "b2+ 4 a+, f14+ 4; x.; 0 0")
	trains("turn 0, turn 0, turn 1, turn 1", "0 0 0 0", "b2+ 4 a+, f10- 4; ..; 0 0")
	trains("turn -1, turn 2, turn 0 1, turn 0 -1", "1 1 1 1", "b2+ 4 a+, f10- 4; xx; 0 0")
	trains("speed 0 5, turn 0", "0 0", "a13- 4, f10- 4; .x; 5 0")
}

func TestHappensNoOp(t *testing.T) {
	s := crossover(t)
	b := impl.Start(s)
	for _, op := range []int{farBelow, -1, 0, 14, 15, 99, farAbove} {
		for _, of := range []int{-1, 0, 1} {
			for _, n := range []int{-1, 0, 1} {
				wantNothing(t, "no Op", s, b, impl.Happen{Op: op, Of: of, N: n}, 1)
			}
		}
	}
}

// What one thing does to the next one, in the same tick.
func TestHappensOneAfterTheOther(t *testing.T) {
	s := crossover(t)
	b := impl.Start(s)
	wantCodes(t, "what was not done does nothing", s, b, "ask 9, ask 0, ask 5, back 0, ask 0", "1 0 3 0 2")
	wantCodes(t, "turned by hand, then asked for", s, b, "hand 0 2, ask 0, hand 0 2, hand 1 2", "0 0 2 2")
	wantCodes(t, "the frame is not told yet", s, b, "ghost 1 1, ask 0, back 0", "0 0 0")
	wantCodes(t, "it is in the next tick", s, boxBehind(t, s, "ghost 1 1"), "ask 0", "4")
	wantCodes(t, "a section that is reset is not free", s, boxBehind(t, s, "reset 1"), "ask 0", "4")
	x := wantCodes(t, "asked for in the tick in which a ghost comes", s, b, "ghost 1 1, ask 0", "0 0")
	if got := frameText(x.Box.Frame); got != "#.#..#. 11 11 / s+ - - - - -" {
		t.Errorf("asked for in the tick in which a ghost comes: %s", got)
	}
	all := strings.Repeat("ask 0, back 0, ", 40) + "ask 0"
	wantCodes(t, "again and again", s, b, all, "0"+codesOfAgain(40))
}

// codesOfAgain are those of a way that is asked for and taken back by turns, with its train near: it is held on.
func codesOfAgain(times int) string {
	out := " 0"
	for range times - 1 {
		out += " 2 2"
	}
	return out + " 2"
}

func TestHappensAsManyAsMay(t *testing.T) {
	s := crossover(t)
	b := impl.Start(s)
	for _, c := range []struct {
		many int
		ok   bool
	}{{0, true}, {1, true}, {99, true}, {100, true}, {101, false}, {102, false}, {500, false}} {
		list := make([]impl.Happen, c.many)
		for i := range list {
			list[i] = impl.Happen{Op: impl.HSpeed, Of: i % 2, N: i}
		}
		what := strconv.Itoa(c.many) + " things"
		x := impl.Tick(s, b, list)
		if x.Ok != c.ok {
			t.Errorf("%s: Ok is %v", what, x.Ok)
		}
		if !c.ok && shotText(s.Net, x) != shotText(s.Net, impl.Shot{}) {
			t.Errorf("%s: Tick is\n%s", what, shotText(s.Net, x))
		}
		if c.ok && (len(x.Codes) != c.many || slices.Max(append(x.Codes, 0)) != 0) {
			t.Errorf("%s: the codes are %v", what, x.Codes)
		}
		wantNoBox(t, what, s, impl.Box{})
	}
}

package tests

import (
	"reflect"
	"strconv"
	"testing"

	"loop.example/signalbox/impl"
)

func pass(of, dir int) impl.CountEvent { return impl.CountEvent{Op: impl.OPass, Of: of, Dir: dir} }

func ghost(of, dir int) impl.CountEvent { return impl.CountEvent{Op: impl.OGhost, Of: of, Dir: dir} }

func dead(of int) impl.CountEvent { return impl.CountEvent{Op: impl.ODead, Of: of} }

func alive(of int) impl.CountEvent { return impl.CountEvent{Op: impl.OAlive, Of: of} }

func reset(of int) impl.CountEvent { return impl.CountEvent{Op: impl.OReset, Of: of} }

// wantDone is asked with a Code other than 1, of a state that is one; an empty text stands for the same state.
func wantDone(t *testing.T, l impl.Layout, text string, e impl.CountEvent, code int, want string) {
	t.Helper()
	s := countOf(t, l, text)
	if !impl.CountOk(l, s) {
		t.Errorf("%s: the test's own state is none", text)
		return
	}
	if want == "" {
		want = text
	}
	got := impl.DoCount(l, s, e)
	if got.Code != code || countText(got.State) != want || len(got.State.Dead) != len(l.Counters) {
		t.Errorf("%s, %v: Code %d, %s; not %d, %s", text, e, got.Code, countText(got.State), code, want)
	}
	if !impl.CountOk(l, got.State) {
		t.Errorf("%s, %v: %s is no state", text, e, countText(got.State))
	}
}

type doCase struct {
	text string
	e    impl.CountEvent
	code int
	want string
}

func wantAllDone(t *testing.T, l impl.Layout, cases []doCase) {
	t.Helper()
	for _, c := range cases {
		wantDone(t, l, c.text, c.e, c.code, c.want)
	}
}

func TestPass(t *testing.T) {
	wantAllDone(t, street(), []doCase{
		{".0 .0 .0 .0", pass(0, 1), 0, "#1+ .0 .0 .0"},
		{".0 .0 .0 .0", pass(0, -1), 0, "#-1L- .0 .0 .0"},
		{".0 .0 .0 .0", pass(3, 1), 0, ".0 .0 #-1L- .0"},
		{".0 .0 .0 .0", pass(3, -1), 0, ".0 .0 #1+ .0"},
		{".0 .0 .0 .0", pass(1, 1), 0, "#-1L- #1+ .0 .0"},
		{".0 .0 .0 .0", pass(1, -1), 0, "#1+ #-1L- .0 .0"},
		{".0 .0 .0 .0", pass(2, 1), 0, ".0 #1+ #-1L- .0"},
		{"#2+ .0 .0 .0", pass(1, 1), 0, "#1- #1+ .0 .0"},
		{"#2+ .0 .0 .0", pass(4, -1), 0, "#1- #1+ .0 .0"},
		{"#1+ #1+ .0 .0", pass(1, 1), 0, ".0- #2+ .0 .0"},
		{"#1- #1+ .0 .0", pass(1, -1), 0, "#2+ .0- .0 .0"},
		{"#1+ .0 .0 .0", pass(0, -1), 0, ".0- .0 .0 .0"},
		{"#5- .0 .0 .0", pass(0, 1), 0, "#6+ .0 .0 .0"},
		{"#5- .0 .0 .0", pass(0, -1), 0, "#4- .0 .0 .0"},
		{".0+ .0 .0 .0", pass(0, -1), 0, "#-1L- .0 .0 .0"},
		{".0- .0 .0 .0", pass(0, -1), 0, "#-1L- .0 .0 .0"},
		{"#-1L- .0 .0 .0", pass(0, 1), 0, "#0L+ .0 .0 .0"},
		{"#-1L- .0 .0 .0", pass(0, -1), 0, "#-2L- .0 .0 .0"},
		{"#0L- .0 .0 .0", pass(0, 1), 0, "#1L+ .0 .0 .0"},
		{"#1L+ .0 .0 .0", pass(0, -1), 0, "#0L- .0 .0 .0"},
		{"#1L+ #1L+ .0 .0", pass(1, 1), 0, "#0L- #2L+ .0 .0"},
	})
}

func TestGhost(t *testing.T) {
	wantAllDone(t, street(), []doCase{
		{".0 .0 .0 .0", ghost(0, 1), 0, "#1+ .0 .0 .0"},
		{".0 .0 .0 .0", ghost(0, -1), 0, ".0 .0 .0 .0"},
		{".0 .0 .0 .0", ghost(3, 1), 0, ".0 .0 .0 .0"},
		{".0 .0 .0 .0", ghost(3, -1), 0, ".0 .0 #1+ .0"},
		{".0 .0 .0 .0", ghost(1, 1), 0, ".0 #1+ .0 .0"},
		{".0 .0 .0 .0", ghost(1, -1), 0, "#1+ .0 .0 .0"},
		{".0 .0 .0 .0", ghost(2, 1), 0, ".0 #1+ .0 .0"},
		{".0 .0 .0 .0", ghost(2, -1), 0, ".0 .0 #1+ .0"},
		{"#1- #2- .0 .0", ghost(1, 1), 0, "#1- #3+ .0 .0"},
		{"#1- #2- .0 .0", ghost(1, -1), 0, "#2+ #2- .0 .0"},
		{"#-1L- .0 .0 .0", ghost(0, 1), 0, "#0L+ .0 .0 .0"},
		{"#-2L- .0 .0 .0", ghost(0, 1), 0, "#-1L+ .0 .0 .0"},
		{"#1- .0 .0 .0", ghost(0, -1), 0, ""},
	})
}

func TestPassOverDead(t *testing.T) {
	for _, e := range []impl.CountEvent{pass(1, 1), pass(1, -1), ghost(1, 1), ghost(1, -1)} {
		wantAllDone(t, street(), []doCase{
			{"!0L !0L .0 .0 /1", e, 2, ""},
			{"!3L+ !-2LS- #1+ ~0S /1", e, 2, ""},
			{"!1000000L !-1000000L !0L .0 /0 /1 /2 /3 /4 /5", e, 2, ""},
		})
	}
	wantAllDone(t, street(), []doCase{
		{"!0L !0L .0 .0 /1", pass(0, 1), 0, "!1L+ !0L .0 .0 /1"},
		{"!0L !0L .0 .0 /1", pass(0, -1), 0, "!-1L- !0L .0 .0 /1"},
		{"!0L !0L .0 .0 /1", pass(4, 1), 0, "!1L+ !-1L- .0 .0 /1"},
		{"!0L !0L .0 .0 /1", ghost(4, -1), 0, "!0L !1L+ .0 .0 /1"},
		{"!0L !0L #1+ .0 /1", pass(2, 1), 0, "!0L !1L+ .0- .0 /1"},
	})
}

// The ends of the range, of sections that are Lost, of ones that are not, and of ones that wait to be swept.
func TestPassAtTheEndsOfCount(t *testing.T) {
	wantAllDone(t, street(), []doCase{
		{"#999999- .0 .0 .0", pass(0, 1), 0, "#1000000+ .0 .0 .0"},
		{"#1000000- .0 .0 .0", pass(0, 1), 0, "#1000000+ .0 .0 .0"},
		{"#1000000 .0 .0 .0", ghost(0, 1), 0, "#1000000+ .0 .0 .0"},
		{"#1000000+ .0 .0 .0", pass(0, -1), 0, "#999999- .0 .0 .0"},
		{"#1000000L- .0 .0 .0", pass(0, 1), 0, "#1000000L+ .0 .0 .0"},
		{"#-999999L+ .0 .0 .0", pass(0, -1), 0, "#-1000000L- .0 .0 .0"},
		{"#-1000000L+ .0 .0 .0", pass(0, -1), 0, "#-1000000L- .0 .0 .0"},
		{"#-1000000L- .0 .0 .0", pass(0, 1), 0, "#-999999L+ .0 .0 .0"},
		{"#-1000000L- .0 .0 .0", ghost(0, 1), 0, "#-999999L+ .0 .0 .0"},
		{"#-1000000L #1000000 .0 .0", pass(1, 1), 0, "#-1000000L- #1000000+ .0 .0"},
		{"#-1000000L #1000000 .0 .0", pass(1, -1), 0, "#-999999L+ #999999- .0 .0"},
		{"~1000000S .0 .0 .0", pass(0, 1), 0, "~1000000S+ .0 .0 .0"},
		{"~1000000S .0 .0 .0", pass(0, -1), 0, "~999999S- .0 .0 .0"},
		{"#-1000000LS .0 .0 .0", pass(0, -1), 0, "#-1000000LS- .0 .0 .0"},
	})
}

func TestSweep(t *testing.T) {
	wantAllDone(t, street(), []doCase{
		{"~0S .0 .0 .0", pass(0, 1), 0, "~1S+ .0 .0 .0"},
		{"~1S+ .0 .0 .0", pass(0, 1), 0, "~2S+ .0 .0 .0"},
		{"~2S+ .0 .0 .0", pass(0, -1), 0, "~1S- .0 .0 .0"},
		{"~1S- .0 .0 .0", pass(0, -1), 0, ".0- .0 .0 .0"},
		{"~1S+ .0 .0 .0", pass(0, -1), 0, ".0- .0 .0 .0"},
		{"~1S+ ~1S+ .0 .0", pass(1, 1), 0, ".0- ~2S+ .0 .0"},
		{"~1S+ ~0S .0 .0", pass(1, 1), 0, ".0- ~1S+ .0 .0"},
		{"~0S ~1S+ .0 .0", pass(1, -1), 0, "~1S+ .0- .0 .0"},
		{"~0S .0 .0 .0", pass(0, -1), 0, "#-1LS- .0 .0 .0"},
		{"#-1LS- .0 .0 .0", pass(0, 1), 0, "#0LS+ .0 .0 .0"},
		{"#-1LS- .0 .0 .0", ghost(0, 1), 0, "#0LS+ .0 .0 .0"},
		{"#-1LS- .0 .0 .0", pass(0, -1), 0, "#-2LS- .0 .0 .0"},
		{"#0LS+ .0 .0 .0", pass(0, -1), 0, "#-1LS- .0 .0 .0"},
		{"#0LS- .0 .0 .0", pass(0, 1), 0, "#1LS+ .0 .0 .0"},
		{"#1LS+ .0 .0 .0", pass(0, -1), 0, "#0L- .0 .0 .0"},
		{"!1LS+ !0L .0 .0 /1", pass(0, -1), 0, "!0L- !0L .0 .0 /1"},
		{"~0S .0 .0 .0", ghost(0, 1), 0, "~1S+ .0 .0 .0"},
		{"~1S+ .0 .0 .0", ghost(0, -1), 0, ""},
		{"~1S+ .0 .0 .0", ghost(1, 1), 0, "~1S+ #1+ .0 .0"},
		{"~0S .0 .0 .0", dead(5), 0, "~0S .0 !0L .0 /5"},
		{"~0S .0 .0 .0", reset(1), 0, "~0S ~0S .0 .0"},
	})
}

func TestDeadAndAlive(t *testing.T) {
	wantAllDone(t, street(), []doCase{
		{".0 .0 .0 .0", dead(0), 0, "!0L .0 .0 .0 /0"},
		{".0 .0 .0 .0", dead(1), 0, "!0L !0L .0 .0 /1"},
		{".0 .0 .0 .0", dead(2), 0, ".0 !0L !0L .0 /2"},
		{".0 .0 .0 .0", dead(3), 0, ".0 .0 !0L .0 /3"},
		{"#2+ ~1S- .0- ~0S", dead(1), 0, "!2L+ !1LS- .0- ~0S /1"},
		{"#-1L- .0 .0 .0", dead(0), 0, "!-1L- .0 .0 .0 /0"},
		{"!0L !0L .0 .0 /1", dead(1), 0, ""},
		{"!0L !0L .0 .0 /1", dead(4), 0, "!0L !0L .0 .0 /1 /4"},
		{"!0L !0L .0 .0 /1", dead(2), 0, "!0L !0L !0L .0 /1 /2"},
		{"!0L .0 .0 .0 /0", alive(0), 0, "#0L .0 .0 .0"},
		{"!0L !0L .0 .0 /1", alive(1), 0, "#0L #0L .0 .0"},
		{"!0L !0L .0 .0 /1", alive(4), 0, ""},
		{".0 #1+ ~0S .0-", alive(2), 0, ""},
		{"#0L #1L+ .0 .0", alive(1), 0, ""},
		{"!0L !0L .0 .0 /1 /4", alive(1), 0, "!0L !0L .0 .0 /4"},
		{"!0L !0L .0 .0 /0 /1", alive(1), 0, "!0L #0L .0 .0 /0"},
		{"!0L !0L .0 .0 /0 /1", alive(0), 0, "!0L !0L .0 .0 /1"},
		{"!3LS+ !-2L- .0 .0 /1", alive(1), 0, "#3LS+ #-2L- .0 .0"},
	})
}

func TestReset(t *testing.T) {
	wantAllDone(t, street(), []doCase{
		{".0 .0 .0 .0", reset(0), 0, "~0S .0 .0 .0"},
		{".0 .0 .0 .0", reset(3), 0, ".0 .0 .0 ~0S"},
		{".0- .0 .0 .0", reset(0), 0, "~0S .0 .0 .0"},
		{".0+ .0 .0 .0", reset(0), 4, ""},
		{"#1 .0 .0 .0", reset(0), 0, "~0S .0 .0 .0"},
		{"#1- .0 .0 .0", reset(0), 0, "~0S .0 .0 .0"},
		{"#1+ .0 .0 .0", reset(0), 4, ""},
		{"#0L .0 .0 .0", reset(0), 0, "~0S .0 .0 .0"},
		{"#0L- .0 .0 .0", reset(0), 0, "~0S .0 .0 .0"},
		{"#0L+ .0 .0 .0", reset(0), 4, ""},
		{"#-7L- .0 .0 .0", reset(0), 0, "~0S .0 .0 .0"},
		{"#-7L+ .0 .0 .0", reset(0), 4, ""},
		{"#1000000L- .0 .0 .0", reset(0), 0, "~0S .0 .0 .0"},
		{"~0S .0 .0 .0", reset(0), 0, ""},
		{"~1S+ .0 .0 .0", reset(0), 4, ""},
		{"~1S- .0 .0 .0", reset(0), 0, "~0S .0 .0 .0"},
		{"#0LS- .0 .0 .0", reset(0), 0, "~0S .0 .0 .0"},
		{"#-1LS- .0 .0 .0", reset(0), 0, "~0S .0 .0 .0"},
		{"#1- #2- #3- #4-", reset(2), 0, "#1- #2- ~0S #4-"},
		{"!0L !0L .0 .0 /1", reset(0), 3, ""},
		{"!0L !0L .0 .0 /1", reset(1), 3, ""},
		{"!0L !0L .0 .0 /1", reset(2), 0, "!0L !0L ~0S .0 /1"},
		{"!0L- .0 .0 .0 /0", reset(0), 3, ""},
		{"!1L+ .0 .0 .0 /0", reset(0), 3, ""},
		{"!0LS .0 .0 .0 /0", reset(0), 3, ""},
		{"!0L !0L .0 .0 /0 /1", reset(1), 3, ""},
		{"!0L #1L+ .0 .0 /0", reset(1), 4, ""},
	})
}

func TestDoCountOfNone(t *testing.T) {
	l := street()
	none := func(what string, l impl.Layout, s impl.CountState, e impl.CountEvent) {
		t.Helper()
		got := impl.DoCount(l, s, e)
		if got.Code != 1 || got.State.Ok || len(got.State.Sections) > 0 || len(got.State.Dead) > 0 {
			t.Errorf("%s: DoCount is %v", what, got)
		}
	}
	s := countOf(t, l, mixed)
	for _, e := range []impl.CountEvent{{}, {Op: 6}, {Op: -1}, pass(0, 0), pass(6, 1), pass(-1, 1), pass(1, 2), ghost(0, -2), ghost(farAbove, 1), dead(6), dead(-1), {Op: impl.ODead, Dir: 1}, alive(6), {Op: impl.OAlive, Of: 1, Dir: -1}, reset(4), reset(-1), {Op: impl.OReset, Dir: 1}} {
		none("an event that is none", l, s, e)
	}
	right := []impl.CountEvent{pass(0, 1), pass(1, 1), ghost(2, -1), dead(3), alive(1), reset(0), reset(3)}
	for _, e := range right {
		if got := impl.DoCount(l, s, e); got.Code == 1 {
			t.Errorf("%v: the test's own event is none", e)
		}
		for _, spoiled := range []string{"!3L+ !-2LS- #1+ .0S /1", "!3+ !-2LS- #1+ ~0S /1", "!3L+ !-2LS- #1+ ~0S", "!3L+ !-2LS- #1+ /1", "!3L+ !-2LS- #1+ ~0S .0 /1", "!3L+ !-2LS- #1+ ~0S- /1", "!3L+ !-2LS- #-1+ ~0S /1", "!3L+ !-2LS- #1000001+ ~0S /1"} {
			none(spoiled, l, countOf(t, l, spoiled), e)
		}
		none("the zero value", l, impl.CountState{}, e)
		spoiled := countOf(t, l, mixed)
		spoiled.Ok = false
		none("not Ok", l, spoiled, e)
		spoiled = countOf(t, l, mixed)
		spoiled.Dead = spoiled.Dead[:5]
		none("a counter less", l, spoiled, e)
		for i, wrong := range wrongLayouts() {
			none("wrong layout "+strconv.Itoa(i), wrong, s, e)
			none("the zero value of wrong layout "+strconv.Itoa(i), wrong, impl.CountState{}, e)
		}
	}
}

// Code 1 comes ahead of the others, 2 is of counters alone, 3 ahead of 4.
func TestDoCountOrderOfCodes(t *testing.T) {
	l := street()
	for _, c := range []struct {
		text string
		e    impl.CountEvent
		code int
	}{
		{"!0L !0L .0 .0 /1", pass(1, 1), 2},
		{"!0L !0L .0 .0 /1", pass(1, 3), 1},
		{"#0L !0L .0 .0 /1", pass(1, 1), 1},
		{"!1L+ .0 .0 .0 /0", reset(0), 3},
		{"#1+ .0 .0 .0", reset(0), 4},
		{"!1+ .0 .0 .0 /0", reset(0), 1},
		{".1+ .0 .0 .0", reset(0), 1},
		{"!1L+ .0 .0 .0 /0", impl.CountEvent{Op: impl.OReset, Dir: 1}, 1},
	} {
		if got := impl.DoCount(l, countOf(t, l, c.text), c.e); got.Code != c.code {
			t.Errorf("%s, %v: Code %d, not %d", c.text, c.e, got.Code, c.code)
		}
	}
}

// A train of three axles goes over the street; then a counter fails under one, and the section is reset and swept.
func TestCountStory(t *testing.T) {
	l := street()
	s := impl.BeginCount(l)
	for i, c := range []struct {
		e    impl.CountEvent
		code int
		want string
	}{
		{pass(0, 1), 0, "#1+ .0 .0 .0"},
		{pass(0, 1), 0, "#2+ .0 .0 .0"},
		{pass(1, 1), 0, "#1- #1+ .0 .0"},
		{pass(4, -1), 0, ".0- #2+ .0 .0"},
		{pass(2, -1), 0, ".0- #1- #1+ .0"},
		{dead(2), 0, ".0- !1L- !1L+ .0 /2"},
		{pass(2, -1), 2, ".0- !1L- !1L+ .0 /2"},
		{reset(1), 3, ".0- !1L- !1L+ .0 /2"},
		{alive(2), 0, ".0- #1L- #1L+ .0"},
		{reset(1), 0, ".0- ~0S #1L+ .0"},
		{reset(2), 4, ".0- ~0S #1L+ .0"},
		{pass(3, 1), 0, ".0- ~0S #0L- .0"},
		{pass(3, 1), 0, ".0- ~0S #-1L- .0"},
		{reset(2), 0, ".0- ~0S ~0S .0"},
		{pass(0, 1), 0, "#1+ ~0S ~0S .0"},
		{pass(1, 1), 0, ".0- ~1S+ ~0S .0"},
		{pass(2, -1), 0, ".0- .0- ~1S+ .0"},
		{pass(3, 1), 0, ".0- .0- .0- .0"},
	} {
		got := impl.DoCount(l, s, c.e)
		if got.Code != c.code || countText(got.State) != c.want || !impl.CountOk(l, got.State) {
			t.Fatalf("step %d, %v: Code %d, %s; not %d, %s", i, c.e, got.Code, countText(got.State), c.code, c.want)
		}
		s = got.State
	}
}

func TestDoCountManyCounters(t *testing.T) {
	for _, k := range []int{0, 1, 62, 63, 64, 65, 118, 119} {
		l := fence(60, 120)
		l.Counters[k] = counter(58, 59)
		s := impl.BeginCount(l)
		for _, e := range []impl.CountEvent{pass(k, 1), pass(k, 1), pass(k, -1), dead(k), pass(k, 1), reset(58), alive(k), reset(59), pass(k, 1), reset(58)} {
			s = impl.DoCount(l, s, e).State
		}
		want := impl.BeginCount(l)
		want.Sections[58] = sectionOf(t, "~0S")
		want.Sections[59] = sectionOf(t, "~1S+")
		if !reflect.DeepEqual(s, want) {
			t.Errorf("counter %d: %s", k, countText(s))
		}
	}
}

package tests

import (
	"strconv"
	"testing"

	"loop.example/signalbox/impl"
)

func wantMove(t *testing.T, what string, n impl.Net, lies []int, x impl.Train, far int, want string) impl.Moved {
	t.Helper()
	got := impl.Move(n, lies, x, far)
	if movedText(n, got) != want {
		t.Errorf("%s: %s, moved by %d, is %s, not %s", what, trainText(n, x), far, movedText(n, got), want)
	}
	return got
}

const noMove = "code 5, 0 far, joint 0 | none | "

func TestMoveFar(t *testing.T) {
	n := lone()
	n.Pieces[0].Len = 20000
	x := impl.Train{Front: impl.Spot{At: 10, Way: 1}, Long: 5}
	for _, far := range []int{farBelow, -10001, -2, -1, 10001, 10002, 1 << 32, farAbove} {
		wantMove(t, "no move", n, []int{0, 0}, x, far, noMove)
	}
	wantMove(t, "not at all", n, []int{0, 0}, x, 0, "code 0, 0 far, joint -1 | a10+ 5 | ")
	wantMove(t, "by one", n, []int{0, 0}, x, 1, "code 0, 1 far, joint -1 | a11+ 5 | a10-11")
	wantMove(t, "one short of MaxMove", n, []int{0, 0}, x, 9999, "code 0, 9999 far, joint -1 | a10009+ 5 | a10-10009")
	wantMove(t, "MaxMove", n, []int{0, 0}, x, 10000, "code 0, 10000 far, joint -1 | a10010+ 5 | a10-10010")
	x = impl.Train{Front: impl.Spot{At: 19000, Way: -1}, Long: 5}
	wantMove(t, "MaxMove, to end 0", n, []int{0, 0}, x, 10000, "code 0, 10000 far, joint -1 | a9000- 5 | a9000-19000")
}

func TestMoveThatIsNone(t *testing.T) {
	n := branch(t)
	left := []int{0, 1, 0, 0, 0, 0, 0, 0}
	x := trainOf(t, n, "d20+ 5")
	for _, lies := range [][]int{nil, make([]int, 7), make([]int, 9), {0, 3, 0, 0, 0, 0, 0, 0}, {1, 1, 0, 0, 0, 0, 0, 0}, {0, 1, -1, 0, 0, 0, 0, 0}} {
		wantMove(t, "lies that are none", n, lies, x, 1, noMove)
	}
	for _, none := range []string{"d20+ 0", "d20+ 25", "d41+ 5", "d20+ 5 e-", "b15- 8 c-", "d20+ 100001"} {
		wantMove(t, "no train", n, left, trainOf(t, n, none), 0, noMove)
	}
	wantMove(t, "nothing at all", impl.Net{}, nil, impl.Train{}, 0, noMove)
	for _, s := range netSpoils() {
		wrong := copyOf(yard())
		s.do(&wrong)
		wantMove(t, s.what, wrong, make([]int, len(wrong.Joints)), impl.Train{Front: impl.Spot{At: 60, Way: 1}, Long: 50}, 1, noMove)
	}
}

func TestMoveOfWhatDoesNotSit(t *testing.T) {
	n := branch(t)
	right, unknown := []int{0, 2, 0, 0, 0, 0, 0, 0}, make([]int, 8)
	for _, train := range []string{"b15- 8 a+", "a5- 8 b+", "e5+ 70 d- b- a+", "b20- 5 a+", "a10- 25 b+ d+", "a0- 25 b+"} {
		for _, far := range []int{0, 1, 5, 10000} {
			wantMove(t, "it lies right", n, right, trainOf(t, n, train), far, "code 4, 0 far, joint -1 | "+train+" | ")
			wantMove(t, "not known", n, unknown, trainOf(t, n, train), far, "code 4, 0 far, joint -1 | "+train+" | ")
		}
	}
	// Where it could not go on either, and where it is no move: what is told first.
	wantMove(t, "at a buffer too", n, right, trainOf(t, n, "a0- 15 b+"), 1, "code 4, 0 far, joint -1 | a0- 15 b+ | ")
	wantMove(t, "too far too", n, right, trainOf(t, n, "b15- 8 a+"), 10001, noMove)
	wantMove(t, "too little too", n, right, trainOf(t, n, "b15- 8 a+"), -1, noMove)
	n = balloon(t)
	wantMove(t, "at an end to which it does not lie too", n, []int{0, 1}, trainOf(t, n, "b15+ 16 b+"), 1, noMove)
	wantMove(t, "over one switch in two ways", n, []int{0, 1}, trainOf(t, n, "a5- 25 b+ a+"), 1, "code 4, 0 far, joint -1 | a5- 25 b+ a+ | ")
}

func TestMoveToJoints(t *testing.T) {
	n := branch(t)
	left, right, unknown := []int{0, 1, 0, 0, 0, 0, 0, 0}, []int{0, 2, 0, 0, 0, 0, 0, 0}, make([]int, 8)
	for _, c := range []struct {
		what  string
		lies  []int
		train string
		far   int
		want  string
	}{
		{"one short of a plain joint", unknown, "d20+ 5", 19, "code 0, 19 far, joint -1 | d39+ 5 | d20-39"},
		{"just to it", unknown, "d20+ 5", 20, "code 0, 20 far, joint -1 | d40+ 5 | d20-40"},
		{"one past it", unknown, "d20+ 5", 21, "code 0, 21 far, joint -1 | b1+ 5 d+ | d20-40 b0-1"},
		{"from just there", unknown, "d40+ 5", 1, "code 0, 1 far, joint -1 | b1+ 5 d+ | b0-1"},
		{"from just there, not at all", unknown, "d40+ 5", 0, "code 0, 0 far, joint -1 | d40+ 5 | "},
		{"just behind it, not at all", unknown, "b0+ 5 d+", 0, "code 0, 0 far, joint -1 | b0+ 5 d+ | "},
		{"just behind it, by one", unknown, "b0+ 5 d+", 1, "code 0, 1 far, joint -1 | b1+ 5 d+ | b0-1"},
		{"the other way over it", unknown, "b3- 5", 5, "code 0, 5 far, joint -1 | d38- 5 b- | b0-3 d38-40"},
		{"over a crossing", unknown, "d3- 5", 5, "code 0, 5 far, joint -1 | e2+ 5 d- | d0-3 e0-2"},
		{"the other way over it", unknown, "e3- 5", 5, "code 0, 5 far, joint -1 | d2+ 5 e- | e0-3 d0-2"},
		{"over its other two", unknown, "f57+ 5", 5, "code 0, 5 far, joint -1 | g68- 5 f+ | f57-60 g68-70"},
		{"the other way over them", unknown, "g67+ 5", 5, "code 0, 5 far, joint -1 | f58- 5 g+ | g67-70 f58-60"},
		{"over the tip, to the left", left, "a7+ 5", 5, "code 0, 5 far, joint -1 | b18- 5 a+ | a7-10 b18-20"},
		{"over the tip, to the right", right, "a7+ 5", 5, "code 0, 5 far, joint -1 | c2+ 5 a+ | a7-10 c0-2"},
		{"from the tip, not known", unknown, "a7+ 5", 5, "code 2, 3 far, joint 1 | a10+ 5 | a7-10"},
		{"up to the tip, not known", unknown, "a7+ 5", 3, "code 0, 3 far, joint -1 | a10+ 5 | a7-10"},
		{"at the tip, not known", unknown, "a10+ 5", 1, "code 2, 0 far, joint 1 | a10+ 5 | "},
		{"at the tip, not known, not at all", unknown, "a10+ 5", 0, "code 0, 0 far, joint -1 | a10+ 5 | "},
		{"from the left", left, "b17+ 5", 5, "code 0, 5 far, joint -1 | a8- 5 b+ | b17-20 a8-10"},
		{"from the left, but it lies right", right, "b17+ 5", 5, "code 3, 3 far, joint 1 | b20+ 5 | b17-20"},
		{"from the left, not known", unknown, "b17+ 5", 5, "code 2, 3 far, joint 1 | b20+ 5 | b17-20"},
		{"up to the left end", right, "b17+ 5", 3, "code 0, 3 far, joint -1 | b20+ 5 | b17-20"},
		{"from the right", right, "c3- 5", 5, "code 0, 5 far, joint -1 | a8- 5 c- | c0-3 a8-10"},
		{"from the right, but it lies left", left, "c3- 5", 5, "code 3, 3 far, joint 1 | c0- 5 | c0-3"},
		{"from the right, not known", unknown, "c3- 5", 5, "code 2, 3 far, joint 1 | c0- 5 | c0-3"},
		{"at the right end, but it lies left", left, "c0- 5", 1, "code 3, 0 far, joint 1 | c0- 5 | "},
		{"to a buffer", unknown, "c20+ 5", 11, "code 1, 10 far, joint 3 | c30+ 5 | c20-30"},
		{"just to a buffer", unknown, "c20+ 5", 10, "code 0, 10 far, joint -1 | c30+ 5 | c20-30"},
		{"at a buffer", unknown, "c30+ 5", 1, "code 1, 0 far, joint 3 | c30+ 5 | "},
		{"at a buffer, not at all", unknown, "c30+ 5", 0, "code 0, 0 far, joint -1 | c30+ 5 | "},
		{"to the first joint", unknown, "a5- 5", 10000, "code 1, 5 far, joint 0 | a0- 5 | a0-5"},
		{"over many joints", left, "a5+ 5", 70, "code 0, 70 far, joint -1 | e5+ 5 | a5-10 b0-20 d0-40 e0-5"},
		{"over many joints, all that there is", left, "a5+ 5", 115, "code 0, 115 far, joint -1 | e50+ 5 | a5-10 b0-20 d0-40 e0-50"},
		{"over many joints to a buffer", left, "a5+ 5", 10000, "code 1, 115 far, joint 5 | e50+ 5 | a5-10 b0-20 d0-40 e0-50"},
		{"a long one over many joints", left, "b15- 12 a+", 60, "code 0, 60 far, joint -1 | e5+ 12 d- | b0-15 d0-40 e0-5"},
		{"over many joints to a switch that lies otherwise", right, "e3- 5", 10000, "code 3, 63 far, joint 1 | b20+ 5 | e0-3 d0-40 b0-20"},
	} {
		wantMove(t, c.what, n, c.lies, trainOf(t, n, c.train), c.far, c.want)
	}
}

// The tail comes to a joint, is just there, and goes over it: just there the body lies on that piece no more.
func TestMoveAndTheTail(t *testing.T) {
	n := branch(t)
	left := []int{0, 1, 0, 0, 0, 0, 0, 0}
	x := trainOf(t, n, "d38- 10 b-") // 2 of it on d, 8 on b
	for _, c := range []struct {
		far  int
		want string
	}{
		{0, "d38- 10 b-"}, {7, "d31- 10 b-"}, {8, "d30- 10"}, {9, "d29- 10"}, {38, "d0- 10"}, {39, "e1+ 10 d-"}, {47, "e9+ 10 d-"}, {48, "e10+ 10"}, {49, "e11+ 10"},
	} {
		if got := impl.Move(n, left, x, c.far); trainText(n, got.Train) != c.want || got.Code != 0 || got.Far != c.far {
			t.Errorf("moved by %d: %s, not %s", c.far, movedText(n, got), c.want)
		}
	}
	x = trainOf(t, n, "b15- 12 a+") // 5 on b, 7 on a
	for _, c := range []struct {
		far  int
		want string
	}{
		{6, "b9- 12 a+"}, {7, "b8- 12"}, {15, "b0- 12"}, {16, "d39- 12 b-"}, {26, "d29- 12 b-"}, {27, "d28- 12"}, {28, "d27- 12"},
	} {
		if got := impl.Move(n, left, x, c.far); trainText(n, got.Train) != c.want {
			t.Errorf("moved by %d: %s, not %s", c.far, movedText(n, got), c.want)
		}
	}
	wantMove(t, "a piece come to and one let go of", n, left, trainOf(t, n, "d0- 41 b-"), 1, "code 0, 1 far, joint -1 | e1+ 41 d- | e0-1")
	// Both ends just at a joint.
	x = trainOf(t, n, "d0- 60 b-")
	wantMove(t, "not at all", n, left, x, 0, "code 0, 0 far, joint -1 | d0- 60 b- | ")
	wantMove(t, "by one", n, left, x, 1, "code 0, 1 far, joint -1 | e1+ 60 d- b- | e0-1")
	wantMove(t, "a piece let go of", n, left, x, 20, "code 0, 20 far, joint -1 | e20+ 60 d- | e0-20")
	wantMove(t, "one short of that", n, left, x, 19, "code 0, 19 far, joint -1 | e19+ 60 d- b- | e0-19")
	// A tail that is just at a joint stays on its piece while nothing moves, and many pieces are let go of at one time.
	n = line(5)
	for p, long := range []int{50, 1, 1, 1, 50} {
		n.Pieces[p].Len = long
	}
	y := trainThatIs(4, 3, 7, 4)
	wantMove(t, "three pieces let go of", n, make([]int, 6), y, 4, "code 0, 4 far, joint -1 | p47+ 7 | p43-7")
	wantMove(t, "one of them left", n, make([]int, 6), y, 3, "code 0, 3 far, joint -1 | p46+ 7 p3+ | p43-6")
	wantMove(t, "none let go of", n, make([]int, 6), trainThatIs(4, 3, 8, 4), 1, "code 0, 1 far, joint -1 | p44+ 8 p3+ p2+ p1+ p0+ | p43-4")
}

func TestMoveInRings(t *testing.T) {
	n := ring()
	n.Pieces[0].Len = 10
	for _, c := range []struct {
		train string
		far   int
		want  string
	}{
		{"a7+ 5", 3, "code 0, 3 far, joint -1 | a10+ 5 | a7-10"},
		{"a7+ 5", 4, "code 0, 4 far, joint -1 | a1+ 5 a+ | a7-10 a0-1"},
		{"a7+ 5", 8, "code 0, 8 far, joint -1 | a5+ 5 | a7-10 a0-5"},
		{"a7+ 5", 25, "code 0, 25 far, joint -1 | a2+ 5 a+ | a7-10 a0-10 a0-10 a0-2"},
		{"a7- 5 a-", 9, "code 0, 9 far, joint -1 | a8- 5 a- | a0-7 a8-10"},
		{"a7+ 25 a+ a+", 2, "code 0, 2 far, joint -1 | a9+ 25 a+ a+ | a7-9"},
		{"a7+ 25 a+ a+", 3, "code 0, 3 far, joint -1 | a10+ 25 a+ a+ | a7-10"},
		{"a7+ 25 a+ a+", 4, "code 0, 4 far, joint -1 | a1+ 25 a+ a+ a+ | a7-10 a0-1"},
		{"a7+ 25 a+ a+", 8, "code 0, 8 far, joint -1 | a5+ 25 a+ a+ | a7-10 a0-5"},
	} {
		wantMove(t, "a ring", n, []int{0}, trainOf(t, n, c.train), c.far, c.want)
	}
	n = spur(t)
	wantMove(t, "round a switch", n, []int{1, 0}, trainOf(t, n, "a5+ 12 a+"), 12, "code 0, 12 far, joint -1 | a7+ 12 a+ | a5-10 a0-7")
	wantMove(t, "off a ring", n, []int{2, 0}, trainOf(t, n, "a5+ 5"), 12, "code 1, 10 far, joint 1 | b5+ 5 | a5-10 b0-5")
	wantMove(t, "a ring that is none", n, []int{2, 0}, trainOf(t, n, "a5- 5"), 12, "code 3, 5 far, joint 0 | a0- 5 | a0-5")
	n = balloon(t)
	wantMove(t, "round a balloon", n, []int{0, 1}, trainOf(t, n, "a5+ 5"), 100, "code 3, 20 far, joint 1 | b15+ 5 | a5-10 b0-15")
	wantMove(t, "the other way round", n, []int{0, 2}, trainOf(t, n, "a5+ 5"), 100, "code 3, 20 far, joint 1 | b0- 5 | a5-10 b0-15")
}

func TestMoveAsFarAsThereIs(t *testing.T) {
	n := hoop(1)
	got := impl.Move(n, []int{0}, round(n, 0, 1, 200), 10000)
	if got.Code != 0 || got.Far != 10000 || len(got.Over) != 10000 || trainText(n, got.Train) != trainText(n, round(n, 0, 1, 200)) {
		t.Errorf("10000 times round: code %d, %d far, over %d, %s", got.Code, got.Far, len(got.Over), trainText(n, got.Train))
	}
}

// With as many steps as there may be, all of them needed, a train cannot go over one more joint.
func TestMoveMostSteps(t *testing.T) {
	for _, n := range []impl.Net{hoop(1), hoop(1, 1, 1), hoop(same(1, 100)...)} {
		lies := make([]int, len(n.Joints))
		last := len(n.Pieces) - 1
		next := round(n, 0, 1, 200)
		first := round(n, last, 1, 200)
		wantMove(t, "most steps on the way", n, lies, first, 1, "code 0, 1 far, joint -1 | "+trainText(n, next)+" | p00-1")
		most := trainText(n, round(n, last, 1, 201))
		wantMove(t, "most steps, not at all", n, lies, round(n, last, 1, 201), 0, "code 0, 0 far, joint -1 | "+most+" | ")
		wantMove(t, "most steps, one more joint", n, lies, round(n, last, 1, 201), 1, "code 6, 0 far, joint "+strconv.Itoa(last)+" | "+most+" | ")
		wantMove(t, "most steps, far", n, lies, round(n, last, 1, 201), 10000, "code 6, 0 far, joint "+strconv.Itoa(last)+" | "+most+" | ")
		behind := round(n, 0, 0, 200)
		wantMove(t, "most steps, just behind a joint", n, lies, behind, 1, "code 0, 1 far, joint -1 | "+trainText(n, next)+" | p00-1")
	}
}

// A piece that is longer than the others: a train whose front leaves it needs more steps than before.
func TestMoveToMostSteps(t *testing.T) {
	n := hoop(100, 1)
	x := round(n, 0, 60, 10102)
	if len(x.Back) != 200 {
		t.Fatalf("the test's own train has %d steps", len(x.Back))
	}
	at := func(at int) string { return trainText(n, round(n, 0, at, 10102)) }
	wantMove(t, "just to the joint", n, []int{0, 0}, x, 40, "code 0, 40 far, joint -1 | "+at(100)+" | p060-100")
	wantMove(t, "one past it", n, []int{0, 0}, x, 41, "code 6, 40 far, joint 0 | "+at(100)+" | p060-100")
	x = round(n, 0, 60, 10000)
	got := impl.Move(n, []int{0, 0}, x, 10000)
	if got.Code != 0 || got.Far != 10000 || trainText(n, got.Train) != trainText(n, round(n, 0, 60+10000-99*101, 10000)) {
		t.Errorf("a shorter one: code %d, %d far, %s", got.Code, got.Far, trainText(n, got.Train))
	}
}

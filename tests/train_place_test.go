package tests

import (
	"strconv"
	"testing"

	"loop.example/signalbox/impl"
)

// wantPlaced takes "" for what is not Ok.
func wantPlaced(t *testing.T, what string, n impl.Net, lies []int, s impl.Spot, long int, want string) {
	t.Helper()
	got := impl.Place(n, lies, s, long)
	if got.Ok != (want != "") || got.Ok && trainText(n, got.Train) != want || !got.Ok && trainText(n, got.Train) != "none" {
		t.Errorf("%s: Place of %s, %d long, is %t %s, not %s", what, spotText(n, s), long, got.Ok, trainText(n, got.Train), want)
	}
	if got.Ok && (!impl.TrainOk(n, got.Train) || !impl.Sits(n, lies, got.Train)) {
		t.Errorf("%s: %s was placed, but is no train, or does not sit", what, trainText(n, got.Train))
	}
}

func TestPlaceThatIsNotOk(t *testing.T) {
	n := branch(t)
	lies := []int{0, 1, 0, 0, 0, 0, 0, 0}
	s := spotAt(t, n, "b15-")
	wantPlaced(t, "right", n, lies, s, 12, "b15- 12 a+")
	wantPlaced(t, "no net", impl.Net{}, nil, impl.Spot{At: 1, Way: 1}, 1, "")
	for _, spoil := range netSpoils() {
		wrong := copyOf(yard())
		spoil.do(&wrong)
		wantPlaced(t, spoil.what, wrong, make([]int, len(wrong.Joints)), impl.Spot{At: 60, Way: 1}, 50, "")
	}
	wantPlaced(t, "a number too few", n, lies[:7], s, 12, "")
	wantPlaced(t, "a number too many", n, make([]int, 9), s, 1, "")
	for j := range lies {
		wrong := []int{0, 1, 0, 0, 0, 0, 0, 0}
		wrong[j] = 3
		wantPlaced(t, "no lie", n, wrong, s, 12, "")
	}
	for _, p := range []int{farBelow, -1, 7, farAbove} {
		wantPlaced(t, "no piece", n, lies, impl.Spot{Piece: p, At: 1, Way: 1}, 1, "")
	}
	for _, at := range []int{farBelow, -1, 21, farAbove} {
		wantPlaced(t, "no place", n, lies, impl.Spot{Piece: 1, At: at, Way: 1}, 1, "")
		wantPlaced(t, "no place", n, lies, impl.Spot{Piece: 1, At: at, Way: -1}, 1, "")
	}
	for _, way := range []int{farBelow, -2, 0, 2, farAbove} {
		wantPlaced(t, "no way", n, lies, impl.Spot{Piece: 1, At: 5, Way: way}, 1, "")
	}
	for _, long := range []int{farBelow, -1, 0, 100001, farAbove} {
		wantPlaced(t, "no length", n, lies, s, long, "")
	}
}

func TestPlaceLong(t *testing.T) {
	n := lone()
	n.Pieces[0].Len = 100002
	for _, long := range []int{1, 99999, 100000} {
		wantPlaced(t, "long", n, make([]int, 2), impl.Spot{At: 100001, Way: 1}, long, "a100001+ "+strconv.Itoa(long))
		wantPlaced(t, "long", n, make([]int, 2), impl.Spot{At: 1, Way: -1}, long, "a1- "+strconv.Itoa(long))
	}
	wantPlaced(t, "too long", n, make([]int, 2), impl.Spot{At: 100001, Way: 1}, 100001, "")
}

func TestPlaceOverJoints(t *testing.T) {
	n := branch(t)
	left, right, unknown := []int{0, 1, 0, 0, 0, 0, 0, 0}, []int{0, 2, 0, 0, 0, 0, 0, 0}, make([]int, 8)
	for _, c := range []struct {
		what string
		lies []int
		spot string
		long int
		want string
	}{
		{"on one piece", unknown, "d30+", 29, "d30+ 29"},
		{"just to the joint behind it", unknown, "d30+", 30, "d30+ 30"},
		{"one past it", unknown, "d30+", 31, "d30+ 31 e-"},
		{"looking to end 0", unknown, "d30-", 9, "d30- 9"},
		{"looking to end 0, just to the joint", unknown, "d30-", 10, "d30- 10"},
		{"looking to end 0, one past it", unknown, "d30-", 11, "d30- 11 b-"},
		{"over a plain joint, one short of the next one", unknown, "d30-", 29, "d30- 29 b-"},
		{"over a plain joint, just to a switch that is not known", unknown, "d30-", 30, "d30- 30 b-"},
		{"over a switch that is not known", unknown, "d30-", 31, ""},
		{"over a switch that lies for it", left, "d30-", 31, "d30- 31 b- a+"},
		{"just to a buffer", left, "d30-", 40, "d30- 40 b- a+"},
		{"over a buffer", left, "d30-", 41, ""},
		{"over a switch that lies otherwise", right, "d30-", 31, ""},
		{"from the tip, right", right, "c5+", 6, "c5+ 6 a+"},
		{"from the tip, but it lies left", left, "c5+", 6, ""},
		{"from the tip, not known", unknown, "c5+", 6, ""},
		{"to the tip, from the left", left, "a5-", 6, "a5- 6 b+"},
		{"to the tip, from the right", right, "a5-", 6, "a5- 6 c-"},
		{"to the tip, from the right, just to a buffer", right, "a5-", 35, "a5- 35 c-"},
		{"to the tip, from the right, over a buffer", right, "a5-", 36, ""},
		{"to the tip, not known", unknown, "a5-", 6, ""},
		{"up to the tip", unknown, "a5-", 5, "a5- 5"},
		{"over a crossing", unknown, "e5+", 6, "e5+ 6 d-"},
		{"over a crossing the other way", unknown, "d35+", 36, "d35+ 36 e-"},
		{"over its other two", unknown, "g65-", 6, "g65- 6 f+"},
		{"over its other two the other way", unknown, "f55-", 6, "f55- 6 g+"},
		{"all the way", left, "e50+", 120, "e50+ 120 d- b- a+"},
		{"all the way back", left, "a0-", 120, "a0- 120 b+ d+ e-"},
		{"one more", left, "e50+", 121, ""},
		{"just where its piece begins", left, "e0+", 1, "e0+ 1 d-"},
		{"just where its piece begins, a piece long", left, "e0+", 40, "e0+ 40 d-"},
		{"just where its piece begins, one more", left, "e0+", 41, "e0+ 41 d- b-"},
		{"just where its piece begins, to end 0", left, "b20-", 1, "b20- 1 a+"},
		{"just where its piece begins, at a buffer", left, "a0+", 1, ""},
		{"just where its piece ends", left, "e50+", 50, "e50+ 50"},
	} {
		wantPlaced(t, c.what, n, c.lies, spotAt(t, n, c.spot), c.long, c.want)
	}
}

func TestPlaceInRings(t *testing.T) {
	n := ring()
	n.Pieces[0].Len = 10
	for _, c := range []struct {
		spot string
		long int
		want string
	}{
		{"a7+", 7, "a7+ 7"}, {"a7+", 8, "a7+ 8 a+"}, {"a7+", 17, "a7+ 17 a+"}, {"a7+", 18, "a7+ 18 a+ a+"}, {"a7+", 25, "a7+ 25 a+ a+"},
		{"a7-", 3, "a7- 3"}, {"a7-", 4, "a7- 4 a-"}, {"a7-", 13, "a7- 13 a-"}, {"a7-", 14, "a7- 14 a- a-"},
		{"a0+", 10, "a0+ 10 a+"}, {"a10+", 10, "a10+ 10"}, {"a10+", 11, "a10+ 11 a+"},
	} {
		wantPlaced(t, "a ring", n, []int{0}, spotAt(t, n, c.spot), c.long, c.want)
	}
	n = spur(t)
	wantPlaced(t, "round a switch", n, []int{1, 0}, spotAt(t, n, "a5+"), 26, "a5+ 26 a+ a+ a+")
	wantPlaced(t, "round a switch, to end 0", n, []int{1, 0}, spotAt(t, n, "a5-"), 26, "a5- 26 a- a- a-")
	wantPlaced(t, "no ring", n, []int{2, 0}, spotAt(t, n, "a5+"), 6, "")
	wantPlaced(t, "off the ring", n, []int{2, 0}, spotAt(t, n, "b2+"), 12, "b2+ 12 a+")
	wantPlaced(t, "off the ring, once round", n, []int{2, 0}, spotAt(t, n, "b2+"), 13, "")
	n = balloon(t)
	wantPlaced(t, "round a balloon", n, []int{0, 1}, spotAt(t, n, "a5-"), 20, "a5- 20 b-")
	wantPlaced(t, "twice over its switch", n, []int{0, 1}, spotAt(t, n, "a5-"), 21, "")
}

func TestPlaceMostSteps(t *testing.T) {
	for _, n := range []impl.Net{hoop(1), hoop(1, 1), hoop(same(1, 100)...)} {
		lies := make([]int, len(n.Joints))
		for _, c := range []struct {
			at, long int
			ok       bool
		}{{1, 1, true}, {1, 200, true}, {1, 201, true}, {1, 202, false}, {1, 100000, false}, {0, 1, true}, {0, 199, true}, {0, 200, true}, {0, 201, false}} {
			want := ""
			if c.ok {
				want = trainText(n, round(n, 0, c.at, c.long))
			}
			wantPlaced(t, "a ring of "+strconv.Itoa(len(n.Pieces)), n, lies, impl.Spot{At: c.at, Way: 1}, c.long, want)
		}
	}
	n := hoop(500, 500)
	wantPlaced(t, "MaxLong, with most steps", n, []int{0, 0}, impl.Spot{Piece: 1, At: 1, Way: 1}, 100000, trainText(n, round(n, 1, 1, 100000)))
	if got := len(impl.Place(n, []int{0, 0}, impl.Spot{Piece: 1, At: 1, Way: 1}, 100000).Train.Back); got != 200 {
		t.Errorf("it lies over %d pieces behind its front", got)
	}
}

// wantBody asks for the parts of a train, its Tail, what it is turned and what it is turned twice.
func wantBody(t *testing.T, n impl.Net, train, body, tail, other, again string) {
	t.Helper()
	x := trainOf(t, n, train)
	wantTrain(t, "a body", n, x, true)
	if got := partsText(n, impl.Body(n, x)); got != body {
		t.Errorf("the body of %s is %s, not %s", train, got, body)
	}
	if got := spotText(n, impl.Tail(n, x)); got != tail {
		t.Errorf("the tail of %s is %s, not %s", train, got, tail)
	}
	if got := trainText(n, impl.Turned(n, x)); got != other {
		t.Errorf("%s turned is %s, not %s", train, got, other)
	}
	if got := trainText(n, impl.Turned(n, impl.Turned(n, x))); got != again {
		t.Errorf("%s turned twice is %s, not %s", train, got, again)
	}
}

func TestBodies(t *testing.T) {
	n := branch(t)
	for _, c := range [][4]string{
		{"d30+ 12", "d18-30", "d18+", "d18- 12"},
		{"d30- 9", "d30-39", "d39-", "d39+ 9"},
		{"d30+ 30", "d0-30", "d0+", "d0- 30"},                      // its tail just at a joint
		{"d30- 10", "d30-40", "d40-", "d40+ 10"},                   // so too, looking to end 0
		{"d40+ 40", "d0-40", "d0+", "d0- 40"},                      // a whole piece
		{"d40+ 5", "d35-40", "d35+", "d35- 5"},                     // its front just at a joint
		{"d0- 5", "d0-5", "d5-", "d5+ 5"},                          // so too, looking to end 0
		{"d30+ 31 e-", "d0-30 e0-1", "e1-", "e1+ 31 d-"},           // one past a joint
		{"e1+ 31 d-", "e0-1 d0-30", "d30-", "d30+ 31 e-"},          // and that turned
		{"d30- 30 b-", "d30-40 b0-20", "b20-", "b20+ 30 d+"},       // its tail just at the next joint
		{"e5+ 50 d- b-", "e0-5 d0-40 b0-5", "b5-", "b5+ 50 d+ e-"}, // over two joints
		{"e5+ 70 d- b- a+", "e0-5 d0-40 b0-20 a5-10", "a5+", "a5- 70 b+ d+ e-"},
		{"e50+ 120 d- b- a+", "e0-50 d0-40 b0-20 a0-10", "a0+", "a0- 120 b+ d+ e-"},
		{"c5+ 15 a+", "c0-5 a0-10", "a0+", "a0- 15 c-"},
		{"g65- 15 f+", "g65-70 f50-60", "f50+", "f50- 15 g+"},
		{"a3- 1", "a3-4", "a4-", "a4+ 1"},
	} {
		wantBody(t, n, c[0], c[1], c[2], c[3], c[0])
	}
}

// A front that is just where its piece begins has nothing of the train on this piece: it is none of the pieces that the turned one needs.
func TestBodiesWhoseFrontIsJustBehindAJoint(t *testing.T) {
	n := branch(t)
	for _, c := range [][5]string{
		{"e0+ 5 d-", "d0-5", "d5-", "d5+ 5", "d0- 5"},
		{"e0+ 40 d-", "d0-40", "d40-", "d40+ 40", "d0- 40"},
		{"e0+ 41 d- b-", "d0-40 b0-1", "b1-", "b1+ 41 d+", "d0- 41 b-"},
		{"b20- 5 a+", "a5-10", "a5+", "a5- 5", "a10+ 5"},
		{"a10- 25 b+ d+", "b0-20 d35-40", "d35+", "d35- 25 b-", "b20+ 25 d+"},
	} {
		wantBody(t, n, c[0], c[1], c[2], c[3], c[4])
	}
}

func TestBodiesInRings(t *testing.T) {
	n := ring()
	n.Pieces[0].Len = 10
	wantBody(t, n, "a7+ 8 a+", "a0-7 a9-10", "a9+", "a9- 8 a-", "a7+ 8 a+")
	wantBody(t, n, "a7+ 25 a+ a+", "a0-7 a0-10 a2-10", "a2+", "a2- 25 a- a-", "a7+ 25 a+ a+")
	wantBody(t, n, "a7+ 27 a+ a+", "a0-7 a0-10 a0-10", "a0+", "a0- 27 a- a-", "a7+ 27 a+ a+")
	wantBody(t, n, "a0+ 20 a+ a+", "a0-10 a0-10", "a0+", "a0- 20 a-", "a10+ 20 a+")
	wantBody(t, n, "a7- 14 a- a-", "a7-10 a0-10 a0-1", "a1-", "a1+ 14 a+ a+", "a7- 14 a- a-")
	n = balloon(t)
	wantBody(t, n, "a5- 25 b+ a+", "a5-10 b0-15 a5-10", "a5+", "a5- 25 b- a+", "a5- 25 b+ a+")
	wantBody(t, n, "a10- 15 b+", "b0-15", "b0+", "b0- 15", "b15+ 15")
}

func TestSits(t *testing.T) {
	n := branch(t)
	left, right, unknown := []int{0, 1, 0, 0, 0, 0, 0, 0}, []int{0, 2, 0, 0, 0, 0, 0, 0}, make([]int, 8)
	for _, c := range []struct {
		what                 string
		train                string
		left, right, unknown bool
	}{
		{"over the tip, to the left", "b15- 8 a+", true, false, false},
		{"over the tip, to the right", "c5+ 8 a+", false, true, false},
		{"from the left", "a5- 8 b+", true, false, false},
		{"from the right", "a5- 8 c-", false, true, false},
		{"over it, and over other joints", "e5+ 70 d- b- a+", true, false, false},
		{"so too, the other way", "a5- 70 b+ d+ e-", true, false, false},
		{"just over it, all of it", "b20- 5 a+", true, false, false},
		{"just over it, all of it, to the right", "c0+ 5 a+", false, true, false},
		{"just over it, to the tip", "a10- 5 c-", false, true, false},
		{"up to the tip", "a10+ 5", true, true, true},
		{"up to the left end", "b20+ 5", true, true, true},
		{"up to the right end", "c0- 5", true, true, true},
		{"its tail at the tip", "a5- 5", true, true, true},
		{"its tail at the left end", "d30- 30 b-", true, true, true},
		{"its tail at the right end", "c5+ 5", true, true, true},
		{"over a crossing and a plain joint", "b5+ 50 d+ e-", true, true, true},
		{"over the other two of a crossing", "g65- 15 f+", true, true, true},
		{"on one piece", "d20+ 5", true, true, true},
	} {
		for i, lies := range [][]int{left, right, unknown} {
			want := []bool{c.left, c.right, c.unknown}[i]
			if got := impl.Sits(n, lies, trainOf(t, n, c.train)); got != want {
				t.Errorf("%s: with %v Sits of %s is %t", c.what, lies, c.train, got)
			}
		}
	}
	for _, lies := range [][]int{nil, make([]int, 7), make([]int, 9), {0, 3, 0, 0, 0, 0, 0, 0}, {1, 1, 0, 0, 0, 0, 0, 0}, {0, 1, -1, 0, 0, 0, 0, 0}} {
		if impl.Sits(n, lies, trainOf(t, n, "d20+ 5")) {
			t.Errorf("it sits, with %v", lies)
		}
	}
	for _, none := range []string{"d20+ 0", "d20+ 25", "d41+ 5", "d20+ 5 e-", "b15- 8 c-"} {
		if impl.Sits(n, left, trainOf(t, n, none)) {
			t.Errorf("%s sits", none)
		}
	}
}

func TestSitsOverOneSwitchTwice(t *testing.T) {
	n := balloon(t)
	x := trainOf(t, n, "a5- 25 b+ a+")
	for lie := range 3 {
		if impl.Sits(n, []int{0, lie}, x) {
			t.Errorf("it sits over one switch in two ways, with %d", lie)
		}
	}
	n = spur(t)
	if x := trainOf(t, n, "a5+ 26 a+ a+ a+"); !impl.Sits(n, []int{1, 0}, x) || impl.Sits(n, []int{2, 0}, x) || impl.Sits(n, []int{0, 0}, x) {
		t.Error("round a switch that lies left it sits, and with no other lie")
	}
	if x := trainOf(t, n, "b2+ 25 a+ a+ a+"); impl.Sits(n, []int{1, 0}, x) || impl.Sits(n, []int{2, 0}, x) {
		t.Error("it sits over one switch in two ways")
	}
}

func wantMeet(t *testing.T, what string, n impl.Net, a, b string, want bool) {
	t.Helper()
	x, y := trainOf(t, n, a), trainOf(t, n, b)
	if impl.Meet(n, x, y) != want || impl.Meet(n, y, x) != want {
		t.Errorf("%s: Meet of %s and %s is %t and %t", what, a, b, impl.Meet(n, x, y), impl.Meet(n, y, x))
	}
}

func TestMeet(t *testing.T) {
	n := branch(t)
	for _, c := range []struct {
		what, a, b string
		want       bool
	}{
		{"apart on one piece", "d20+ 5", "d30+ 5", false},
		{"apart by one", "d24+ 5", "d30+ 5", false},
		{"one place in common", "d25+ 5", "d30+ 5", true},
		{"two places in common", "d26+ 5", "d30+ 5", true},
		{"one in the other one", "d25+ 3", "d30+ 20", true},
		{"the same", "d30+ 5", "d30+ 5", true},
		{"the same, turned", "d30+ 5", "d25- 5", true},
		{"front to front", "d20+ 5", "d20- 5", true},
		{"front to front, apart by one", "d20+ 5", "d21- 5", false},
		{"tail to tail", "d20+ 5", "d15- 5", true},
		{"the same places of other pieces", "d20+ 5", "e20+ 5", false},
		{"end to end over a joint", "d40+ 10", "b0- 10", false},
		{"end to end over a joint, one past it", "d40+ 10", "d39- 2 b-", true},
		{"end to end over a switch", "a10+ 5", "b20+ 5", false},
		{"over a crossing, the one and the other way", "e5+ 10 d-", "g65- 10 f+", false},
		{"many pieces, none in common", "e5+ 50 d- b-", "c5+ 8 a+", false},
		{"many pieces, one in common, apart", "e5+ 70 d- b- a+", "a4+ 2", false},
		{"many pieces, one in common, one place", "e5+ 70 d- b- a+", "a5+ 2", true},
		{"many pieces, the middle one", "e5+ 70 d- b- a+", "d20- 2", true},
		{"many pieces, several", "e5+ 70 d- b- a+", "a4- 20 b+", true},
		{"a front just where a piece begins has nothing of it there", "e0+ 5 d-", "e5+ 5", false},
		{"nor has the other one's", "e0+ 5 d-", "e5- 5", false},
		{"but it has its last piece", "e0+ 5 d-", "d5+ 5", true},
		{"where both are just at a joint", "e0+ 5 d-", "e0- 5", false},
	} {
		wantMeet(t, c.what, n, c.a, c.b, c.want)
	}
	n = ring()
	wantMeet(t, "end to end in a ring", n, "a30+ 30", "a100+ 20", false)
	wantMeet(t, "one past the joint of a ring", n, "a10+ 20 a+", "a90+ 5", true)
	wantMeet(t, "apart in a ring", n, "a10+ 20 a+", "a89+ 5", false)
	wantMeet(t, "its first part", n, "a10+ 20 a+", "a20+ 10", true)
}

func TestMeetWithNoTrain(t *testing.T) {
	n := branch(t)
	for _, none := range []string{"d20+ 0", "d20+ 25", "d41+ 5", "d20+ 5 e-", "d20+ 100001", "d20+ 25 b-"} {
		wantMeet(t, "no train", n, none, "d20+ 5", false)
		wantMeet(t, "no trains", n, none, none, false)
	}
	x := trainOf(t, n, "d20+ 5")
	for _, s := range netSpoils() {
		wrong := copyOf(yard())
		s.do(&wrong)
		if impl.Meet(wrong, x, x) {
			t.Errorf("%s: trains meet", s.what)
		}
	}
	if impl.Meet(n, impl.Train{}, x) || impl.Meet(n, x, impl.Train{}) || impl.Meet(impl.Net{}, x, x) {
		t.Error("what is none meets something")
	}
}

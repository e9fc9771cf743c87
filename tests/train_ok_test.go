package tests

import (
	"slices"
	"strconv"
	"testing"

	"loop.example/signalbox/impl"
)

func TestTrainNumbers(t *testing.T) {
	if impl.MaxLong != 100000 || impl.MaxMove != 10000 {
		t.Errorf("MaxLong is %d, MaxMove is %d", impl.MaxLong, impl.MaxMove)
	}
}

func wantLies(t *testing.T, what string, n impl.Net, lies []int, want bool) {
	t.Helper()
	if got := impl.LiesOk(n, lies); got != want {
		t.Errorf("%s: LiesOk of %v is %t", what, lies, got)
	}
}

func TestLiesOfANet(t *testing.T) {
	wantLies(t, "nothing known", yard(), make([]int, 8), true)
	wantLies(t, "both left", yard(), []int{0, 1, 0, 0, 1, 0, 0, 0}, true)
	wantLies(t, "both right", yard(), []int{0, 2, 0, 0, 2, 0, 0, 0}, true)
	wantLies(t, "each otherwise", yard(), []int{0, 2, 0, 0, 1, 0, 0, 0}, true)
	wantLies(t, "no switches", line(3), make([]int, 4), true)
	wantLies(t, "a ring", ring(), []int{0}, true)
	wantLies(t, "MaxPieces", line(impl.MaxPieces), make([]int, impl.MaxPieces+1), true)
}

func TestLiesOfNoNet(t *testing.T) {
	wantLies(t, "no net", impl.Net{}, nil, false)
	wantLies(t, "no net, a number", impl.Net{}, []int{0}, false)
	wantLies(t, "too many pieces", line(impl.MaxPieces+1), make([]int, impl.MaxPieces+2), false)
	for _, s := range netSpoils() {
		n := copyOf(yard())
		s.do(&n)
		wantLies(t, s.what, n, make([]int, len(n.Joints)), false)
	}
}

func TestLiesHowMany(t *testing.T) {
	for count := range 20 {
		wantLies(t, "yard", yard(), make([]int, count), count == 8)
	}
	wantLies(t, "nil", yard(), nil, false)
	wantLies(t, "one for each piece", yard(), make([]int, 10), false)
	wantLies(t, "many", yard(), make([]int, 100000), false)
}

func TestLiesOfEachJoint(t *testing.T) {
	n := yard()
	for j, joint := range n.Joints {
		for _, x := range []int{farBelow, -1 << 32, -2, -1, 0, 1, 2, 3, 4, 1 << 32, 1<<32 + 1, 1<<32 + 2, farAbove} {
			lies := make([]int, 8)
			lies[j] = x
			want := x == 0 || joint.Kind == impl.JSwitch && (x == 1 || x == 2)
			wantLies(t, "joint "+strconv.Itoa(j), n, lies, want)
			lies = []int{0, 2, 0, 0, 1, 0, 0, 0}
			lies[j] = x
			wantLies(t, "joint "+strconv.Itoa(j)+", the others known", n, lies, want)
		}
	}
}

// wantTrain asks too that of what is no train nothing is told.
func wantTrain(t *testing.T, what string, n impl.Net, x impl.Train, want bool) {
	t.Helper()
	if got := impl.TrainOk(n, x); got != want {
		t.Errorf("%s: TrainOk of %s is %t", what, trainText(n, x), got)
	}
	lies := make([]int, len(n.Joints))
	if got := impl.Body(n, x); (len(got) > 0) != want {
		t.Errorf("%s: Body is %v", what, got)
	}
	if got := impl.Tail(n, x); (got.Way != 0) != want || !want && got != (impl.Spot{}) {
		t.Errorf("%s: Tail is %v", what, got)
	}
	if got := impl.Turned(n, x); impl.TrainOk(n, got) != want || !want && trainText(n, got) != "none" {
		t.Errorf("%s: Turned is %s", what, trainText(n, got))
	}
	if impl.Meet(n, x, x) != want {
		t.Errorf("%s: it meets itself, or not", what)
	}
	if want {
		return
	}
	if impl.Sits(n, lies, x) {
		t.Errorf("%s: it sits", what)
	}
	if got := movedText(n, impl.Move(n, lies, x, 1)); got != "code 5, 0 far, joint 0 | none | " {
		t.Errorf("%s: it moves: %s", what, got)
	}
}

func TestTrainOfNoNet(t *testing.T) {
	x := impl.Train{Front: impl.Spot{Piece: 0, At: 60, Way: 1}, Long: 50}
	wantTrain(t, "yard", yard(), x, true)
	wantTrain(t, "no net", impl.Net{}, x, false)
	wantTrain(t, "too many pieces", line(impl.MaxPieces+1), x, false)
	for _, s := range netSpoils() {
		n := copyOf(yard())
		s.do(&n)
		wantTrain(t, s.what, n, x, false)
	}
	wantTrain(t, "no train", yard(), impl.Train{}, false)
}

func TestTrainFront(t *testing.T) {
	n := branch(t)
	for _, p := range []int{farBelow, -7, -1, 0, 1, 2, 3, 4, 5, 6, 7, 100, 1 << 32, farAbove} {
		x := impl.Train{Front: impl.Spot{Piece: p, At: 5, Way: 1}, Long: 5}
		wantTrain(t, "piece "+strconv.Itoa(p), n, x, p >= 0 && p < 7)
	}
	for _, way := range []int{farBelow, -2, -1, 0, 1, 2, 3, 1<<32 + 1, farAbove} {
		x := impl.Train{Front: impl.Spot{Piece: 1, At: 10, Way: way}, Long: 5}
		wantTrain(t, "way "+strconv.Itoa(way), n, x, way == 1 || way == -1)
	}
	// Behind a front that looks to end 0 is what is beyond it.
	for _, at := range []int{farBelow, -1, 0, 1, 19, 20, 21, 1 << 32, farAbove} {
		is := at >= 0 && at <= 20
		x := impl.Train{Front: impl.Spot{Piece: 1, At: at, Way: 1}, Long: 1}
		if at <= 0 {
			x.Back = stepsOf(t, n, "d+")
		}
		wantTrain(t, "looking to end 1 at "+strconv.Itoa(at), n, x, is)
		x = impl.Train{Front: impl.Spot{Piece: 1, At: at, Way: -1}, Long: 1}
		if at >= 20 {
			x.Back = stepsOf(t, n, "a+")
		}
		wantTrain(t, "looking to end 0 at "+strconv.Itoa(at), n, x, is)
	}
}

func TestTrainLong(t *testing.T) {
	n := lone()
	n.Pieces[0].Len = impl.MaxLong + 5
	for _, long := range []int{farBelow, -1, 0, 1, 2, impl.MaxLong - 1, impl.MaxLong, impl.MaxLong + 1, impl.MaxLong + 5, 1 << 32, 1<<32 + 1, farAbove} {
		want := long >= 1 && long <= 100000
		wantTrain(t, "long "+strconv.Itoa(long), n, impl.Train{Front: impl.Spot{At: impl.MaxLong + 5, Way: 1}, Long: long}, want)
		wantTrain(t, "turned, long "+strconv.Itoa(long), n, impl.Train{Front: impl.Spot{At: 0, Way: -1}, Long: long}, want)
	}
	n = line(20)
	for p := range n.Pieces {
		n.Pieces[p].Len = 10000
	}
	x := impl.Train{Front: impl.Spot{Piece: 10, At: 9999, Way: 1}, Long: impl.MaxLong}
	for p := 9; p >= 0; p-- {
		x.Back = append(x.Back, impl.Step{Piece: p, Way: 1})
	}
	wantTrain(t, "MaxLong over many pieces", n, x, true)
	x.Front.At, x.Long = 10000, impl.MaxLong+1
	wantTrain(t, "one more over many pieces", n, x, false)
}

func TestTrainMostSteps(t *testing.T) {
	for _, n := range []impl.Net{hoop(1), hoop(1, 1, 1), hoop(same(1, 100)...)} {
		for _, long := range []int{1, 2, 199, 200, 201} {
			wantTrain(t, "long "+strconv.Itoa(long), n, round(n, 0, 1, long), true)
		}
		if got := len(round(n, 0, 1, 201).Back); got != 2*impl.MaxPieces {
			t.Fatalf("the test's own train has %d steps", got)
		}
		for _, long := range []int{202, 203, 400, 10000} {
			wantTrain(t, "long "+strconv.Itoa(long), n, round(n, 0, 1, long), false)
		}
		wantTrain(t, "just behind a joint", n, round(n, 0, 0, 200), true)
		wantTrain(t, "just behind a joint, one longer", n, round(n, 0, 0, 201), false)
		x := round(n, 0, 1, 201)
		x.Back = append(x.Back, x.Back[:100]...)
		wantTrain(t, "more than it needs", n, x, false)
	}
}

func TestTrainStepsThatAreNone(t *testing.T) {
	n := branch(t)
	for at := range 3 {
		for _, wrong := range []int{farBelow, -2, -1, 0, 1, 2, 3, 4, 5, 6, 7, 100, 1 << 32, farAbove} {
			x := trainOf(t, n, "e10+ 75 d- b- a+")
			wantTrain(t, "right", n, x, true)
			right := x.Back[at]
			x.Back[at].Piece = wrong
			wantTrain(t, "step "+strconv.Itoa(at)+", piece "+strconv.Itoa(wrong), n, x, wrong == right.Piece)
			x.Back[at] = right
			x.Back[at].Way = wrong
			wantTrain(t, "step "+strconv.Itoa(at)+", way "+strconv.Itoa(wrong), n, x, wrong == right.Way)
		}
	}
}

// Whatever one writes behind the front: trains lie over joints alone.
func TestTrainOverEachJoint(t *testing.T) {
	n := branch(t)
	// For each front the steps from which one comes to it.
	come := map[string]string{
		"a-": "b+ c-", "a+": "", // from both over the switch, however it lies; from the buffer nobody
		"b+": "d+", "b-": "a+",
		"c+": "a+", "c-": "",
		"d+": "e-", "d-": "b-",
		"e+": "d-", "e-": "",
		"f+": "", "f-": "g+",
		"g+": "", "g-": "f+",
	}
	all := stepsOf(t, n, "a+ a- b+ b- c+ c- d+ d- e+ e- f+ f- g+ g-")
	for _, front := range all {
		name := stepsText(n, []impl.Step{front})
		at := n.Pieces[front.Piece].Len / 2
		x := impl.Train{Front: impl.Spot{Piece: front.Piece, At: at, Way: front.Way}, Long: at + 1}
		wantTrain(t, name+", nothing behind it", n, x, false)
		for _, behind := range all {
			x.Back = []impl.Step{behind}
			want := slices.Contains(stepsOf(t, n, come[name]), behind)
			wantTrain(t, name+" from "+stepsText(n, x.Back), n, x, want)
		}
	}
}

func TestTrainsOverSwitches(t *testing.T) {
	n := branch(t)
	for _, c := range []struct {
		train string
		want  bool
	}{
		{"b15- 8 a+", true}, {"c5+ 8 a+", true}, // over the tip, to the left and to the right
		{"a5- 8 b+", true}, {"a5- 8 c-", true}, // from the left and from the right
		{"a5- 8 b-", false}, {"a5- 8 c+", false}, // looking away from the switch
		{"a5+ 8 b+", false}, {"a5+ 8 c-", false}, // the other end of a
		{"b15- 8 c-", false}, {"c5+ 8 b+", false}, // from one of them to the other one
	} {
		wantTrain(t, "a switch", n, trainOf(t, n, c.train), c.want)
	}
	n = balloon(t)
	for _, c := range []struct {
		train string
		want  bool
	}{
		{"a5- 25 b+ a+", true}, {"a5- 25 b- a+", true}, // round it, either way; the switch would have to turn under it
		{"a5- 25 b+ a-", false}, {"a5- 25 b+ b+", false}, {"a5- 25 b+ b-", false},
		{"b5+ 15 a+", true}, {"b10- 15 a+", true},
		{"b5+ 20 b+", false}, {"b5+ 20 b-", false},
	} {
		wantTrain(t, "a balloon", n, trainOf(t, n, c.train), c.want)
	}
	n = spur(t)
	for _, c := range []struct {
		train string
		want  bool
	}{
		{"a5+ 9 a+", true}, {"a5- 9 a-", true}, {"a5- 9 b-", true}, {"b2+ 5 a+", true},
		{"b2+ 25 a+ a+ a+", true}, // twice over the tip, to the left and then to the right
		{"a5+ 9 b-", false}, {"a5+ 9 a-", false}, {"a5- 9 a+", false}, {"b2+ 5 a-", false}, {"b2- 5 a+", false},
	} {
		wantTrain(t, "a spur", n, trainOf(t, n, c.train), c.want)
	}
}

func TestTrainAsManyStepsAsItNeeds(t *testing.T) {
	n := line(4) // of 100 each
	for _, c := range []struct {
		at, long int
		back     int
	}{
		{60, 1, 0}, {60, 59, 0}, {60, 60, 0}, {60, 61, 1}, {60, 159, 1}, {60, 160, 1}, {60, 161, 2}, {60, 260, 2}, {60, 261, 3}, {60, 360, 3},
		{0, 1, 1}, {0, 100, 1}, {0, 101, 2}, {0, 300, 3},
		{1, 1, 0}, {1, 2, 1}, {1, 101, 1}, {1, 102, 2},
		{100, 99, 0}, {100, 100, 0}, {100, 101, 1}, {100, 200, 1}, {100, 201, 2}, {100, 400, 3},
	} {
		steps := []impl.Step{{Piece: 2, Way: 1}, {Piece: 1, Way: 1}, {Piece: 0, Way: 1}}
		mirrored := []impl.Step{{Piece: 1, Way: -1}, {Piece: 2, Way: -1}, {Piece: 3, Way: -1}}
		for count := range 4 {
			what := strconv.Itoa(c.long) + " long at " + strconv.Itoa(c.at) + ", " + strconv.Itoa(count) + " steps"
			wantTrain(t, what, n, impl.Train{Front: impl.Spot{Piece: 3, At: c.at, Way: 1}, Long: c.long, Back: steps[:count]}, count == c.back)
			wantTrain(t, what+", mirrored", n, impl.Train{Front: impl.Spot{Piece: 0, At: 100 - c.at, Way: -1}, Long: c.long, Back: mirrored[:count]}, count == c.back)
		}
	}
	wantTrain(t, "no room for all of it", n, trainThatIs(3, 100, 401, 3), false)
	wantTrain(t, "steps that are nil or empty", n, impl.Train{Front: impl.Spot{At: 60, Way: 1}, Long: 60, Back: []impl.Step{}}, true)
}

// trainThatIs on a line, over so many pieces behind its front.
func trainThatIs(front, at, long, back int) impl.Train {
	out := impl.Train{Front: impl.Spot{Piece: front, At: at, Way: 1}, Long: long}
	for i := range back {
		out.Back = append(out.Back, impl.Step{Piece: front - 1 - i, Way: 1})
	}
	return out
}

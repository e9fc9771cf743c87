package tests

import (
	"reflect"
	"slices"
	"strconv"
	"testing"

	"loop.example/signalbox/impl"
)

// Trains as cells of one unit each, to hold those of the program against.

// slowCell is the unit of a piece from one place to the next higher one. Each time a train comes to a piece it is another visit.
type slowCell struct{ visit, piece, low int }

type slowTrain struct {
	net   *slowNet
	front slowSpot
	visit int // of the front
	cells []slowCell
	steps map[int]impl.Step // of each visit
	tail  slowSpot
}

func slowIsStep(n impl.Net, s impl.Step) bool {
	return s.Piece >= 0 && s.Piece < len(n.Pieces) && (s.Way == 1 || s.Way == -1)
}

func slowIsSpot(n impl.Net, s impl.Spot) bool {
	return slowIsStep(n, impl.Step{Piece: s.Piece, Way: s.Way}) && s.At >= 0 && s.At <= n.Pieces[s.Piece].Len
}

// leads tells whether one comes from a step to another one, with any lie of a switch.
func (s *slowNet) leads(from, to impl.Step) bool {
	side := map[int]int{1: 1, -1: 0}
	j, place := s.jointAt(end(from.Piece, side[from.Way]))
	for _, x := range exits(s.net.Joints[j].Kind, place) {
		if s.net.Joints[j].Ends[x[0]] == end(to.Piece, side[-to.Way]) {
			return true
		}
	}
	return false
}

// overAs is behind which end one comes from an end of a piece, and why not.
func (s *slowNet) overAs(lies []int, e impl.End) (next impl.End, joint, code int) {
	j, place := s.jointAt(e)
	switch kind := s.net.Joints[j].Kind; {
	case kind == impl.JEnd:
		return impl.End{}, j, 1
	case kind == impl.JSwitch && lies[j] == 0:
		return impl.End{}, j, 2
	}
	for _, x := range exits(s.net.Joints[j].Kind, place) {
		if x[1] == lies[j] {
			return s.net.Joints[j].Ends[x[0]], j, 0
		}
	}
	return impl.End{}, j, 3
}

// back goes one unit back, not ok where the piece of this spot begins.
func (s *slowNet) back(x slowSpot) (slowSpot, bool) {
	if _, begins := s.endAt(slowSpot{x.piece, x.at, -x.way}); begins {
		return x, false
	}
	x.at -= x.way
	return x, true
}

// slowTrainOf is nil for what is no train.
func slowTrainOf(n impl.Net, t impl.Train) *slowTrain {
	if impl.NetOk(n) != (impl.Fault{}) || !slowIsSpot(n, t.Front) || t.Long < 1 || t.Long > 100000 || len(t.Back) > 200 {
		return nil
	}
	s := &slowNet{net: n}
	x := &slowTrain{net: s, front: slowSpot{t.Front.Piece, t.Front.At, t.Front.Way}, steps: map[int]impl.Step{}}
	ahead := impl.Step{Piece: t.Front.Piece, Way: t.Front.Way}
	x.steps[0] = ahead
	for i, step := range t.Back {
		if !slowIsStep(n, step) || !s.leads(step, ahead) {
			return nil
		}
		x.steps[-1-i] = step
		ahead = step
	}
	here, visit := x.front, 0
	for range t.Long {
		next, ok := s.back(here)
		for !ok {
			if visit--; -visit > len(t.Back) {
				return nil
			}
			step := x.steps[visit]
			here = slowSpot{step.Piece, map[int]int{1: n.Pieces[step.Piece].Len, -1: 0}[step.Way], step.Way}
			next, ok = s.back(here)
		}
		x.cells = append(x.cells, slowCell{visit, here.piece, min(here.at, next.at)})
		here = next
	}
	if -visit != len(t.Back) {
		return nil
	}
	x.tail = here
	return x
}

// visits are those that have a cell, the first first.
func visits(cells []slowCell) []int {
	var out []int
	for i, c := range cells {
		if i == 0 || cells[i-1].visit != c.visit {
			out = append(out, c.visit)
		}
	}
	return out
}

func slowParts(cells []slowCell) []impl.Part {
	var out []impl.Part
	for i, c := range cells {
		if i == 0 || cells[i-1].visit != c.visit {
			out = append(out, impl.Part{Piece: c.piece, From: c.low, To: c.low + 1})
		}
		last := &out[len(out)-1]
		last.From, last.To = min(last.From, c.low), max(last.To, c.low+1)
	}
	return out
}

func spotOfSlow(x slowSpot) impl.Spot { return impl.Spot{Piece: x.piece, At: x.at, Way: x.way} }

func (x *slowTrain) train() impl.Train {
	out := impl.Train{Front: spotOfSlow(x.front), Long: len(x.cells)}
	for _, v := range visits(x.cells) {
		if v != x.visit {
			out.Back = append(out.Back, x.steps[v])
		}
	}
	return out
}

func (x *slowTrain) turned() impl.Train {
	out := impl.Train{Front: impl.Spot{Piece: x.tail.piece, At: x.tail.at, Way: -x.tail.way}, Long: len(x.cells)}
	list := visits(x.cells)
	slices.Reverse(list)
	for _, v := range list[1:] {
		out.Back = append(out.Back, impl.Step{Piece: x.steps[v].Piece, Way: -x.steps[v].Way})
	}
	return out
}

func (x *slowTrain) sits(lies []int, t impl.Train) bool {
	ahead := impl.Step{Piece: t.Front.Piece, Way: t.Front.Way}
	for _, step := range t.Back {
		next, _, code := x.net.overAs(lies, end(step.Piece, (step.Way+1)/2))
		if code != 0 || next != end(ahead.Piece, (1-ahead.Way)/2) {
			return false
		}
		ahead = step
	}
	return true
}

type slowPoint struct{ piece, at int }

func (x *slowTrain) meets(y *slowTrain) bool {
	mine := map[slowPoint]int{}
	for _, c := range x.cells {
		mine[slowPoint{c.piece, c.low}]++
		mine[slowPoint{c.piece, c.low + 1}]++
	}
	for _, c := range y.cells {
		if mine[slowPoint{c.piece, c.low}]+mine[slowPoint{c.piece, c.low + 1}] > 0 {
			return true
		}
	}
	return false
}

func slowLiesOk(n impl.Net, lies []int) bool {
	if impl.NetOk(n) != (impl.Fault{}) || len(lies) != len(n.Joints) {
		return false
	}
	for j, lie := range lies {
		if lie != 0 && (n.Joints[j].Kind != impl.JSwitch || lie != 1 && lie != 2) {
			return false
		}
	}
	return true
}

func slowPlace(n impl.Net, lies []int, s impl.Spot, long int) impl.Placed {
	if !slowLiesOk(n, lies) || !slowIsSpot(n, s) || long < 1 || long > 100000 {
		return impl.Placed{}
	}
	net := &slowNet{net: n}
	out := impl.Train{Front: s, Long: long}
	here := slowSpot{s.Piece, s.At, s.Way}
	for range long {
		next, ok := net.back(here)
		for !ok {
			e, _ := net.endAt(slowSpot{here.piece, here.at, -here.way})
			behind, _, code := net.overAs(lies, e)
			if code != 0 || len(out.Back) == 200 {
				return impl.Placed{}
			}
			here = net.behind(behind)
			here.way = -here.way
			out.Back = append(out.Back, impl.Step{Piece: here.piece, Way: here.way})
			next, ok = net.back(here)
		}
		here = next
	}
	return impl.Placed{Ok: true, Train: out}
}

func slowMove(n impl.Net, lies []int, t impl.Train, far int) impl.Moved {
	x := slowTrainOf(n, t)
	if !slowLiesOk(n, lies) || x == nil || far < 0 || far > 10000 {
		return impl.Moved{Code: 5}
	}
	if !x.sits(lies, t) {
		return impl.Moved{Code: 4, Joint: -1, Train: t}
	}
	out := impl.Moved{Joint: -1}
	var over []slowCell
	for range far {
		if e, ends := x.net.endAt(x.front); ends {
			next, joint, code := x.net.overAs(lies, e)
			if code == 0 && len(visits(x.cells)) > 200 {
				code = 6
			}
			if code != 0 {
				out.Code, out.Joint = code, joint
				break
			}
			x.front = x.net.behind(next)
			x.visit++
			x.steps[x.visit] = impl.Step{Piece: x.front.piece, Way: x.front.way}
		}
		low := min(x.front.at, x.front.at+x.front.way)
		x.front.at += x.front.way
		cell := slowCell{x.visit, x.front.piece, low}
		x.cells = append([]slowCell{cell}, x.cells[:len(x.cells)-1]...)
		over = append(over, cell)
		out.Far++
	}
	out.Train, out.Over = x.train(), slowParts(over)
	return out
}

func wantSlowPlace(t *testing.T, n impl.Net, lies []int, s impl.Spot, long int) {
	t.Helper()
	got, want := impl.Place(n, lies, s, long), slowPlace(n, lies, s, long)
	if got.Ok != want.Ok || trainText(n, got.Train) != trainText(n, want.Train) {
		t.Fatalf("Place(%v, %v, %v, %d) is %v, not %v", n, lies, s, long, got, want)
	}
}

// wantSlowTrain answers nil for what is none.
func wantSlowTrain(t *testing.T, n impl.Net, x impl.Train) *slowTrain {
	t.Helper()
	slow := slowTrainOf(n, x)
	if got := impl.TrainOk(n, x); got != (slow != nil) {
		t.Fatalf("TrainOk(%v, %v) is %t", n, x, got)
	}
	var body []impl.Part
	tail, turned := impl.Spot{}, impl.Train{}
	if slow != nil {
		body, tail, turned = slowParts(slow.cells), spotOfSlow(slow.tail), slow.turned()
	}
	if got := impl.Body(n, x); !slices.Equal(got, body) {
		t.Fatalf("Body(%v, %v) is %v, not %v", n, x, got, body)
	}
	if got := impl.Tail(n, x); got != tail {
		t.Fatalf("Tail(%v, %v) is %v, not %v", n, x, got, tail)
	}
	if got := impl.Turned(n, x); trainText(n, got) != trainText(n, turned) {
		t.Fatalf("Turned(%v, %v) is %v, not %v", n, x, got, turned)
	}
	return slow
}

func wantSlowMove(t *testing.T, n impl.Net, lies []int, x impl.Train, far int) impl.Moved {
	t.Helper()
	got, want := impl.Move(n, lies, x, far), slowMove(n, lies, x, far)
	if movedText(n, got) != movedText(n, want) {
		t.Fatalf("Move(%v, %v, %v, %d) is\n%s\nnot\n%s", n, lies, x, far, movedText(n, got), movedText(n, want))
	}
	return got
}

// permutations are all orders of so many.
func permutations(count int) [][]int {
	out := [][]int{{}}
	for i := range count {
		var more [][]int
		for _, list := range out {
			for at := range i + 1 {
				more = append(more, slices.Insert(slices.Clone(list), at, i))
			}
		}
		out = more
	}
	return out
}

// smallNets are all nets of two pieces of these lengths.
func smallNets(lengths [2]int) []impl.Net {
	var out []impl.Net
	ends := []impl.End{end(0, 0), end(0, 1), end(1, 0), end(1, 1)}
	for _, order := range permutations(4) {
		// Each set bit is a joint that ends there.
		for cuts := range 8 {
			n := impl.Net{Pieces: []impl.Piece{piece("a", lengths[0]), piece("b", lengths[1])}}
			j := impl.Joint{}
			for i, k := range order {
				j.Ends = append(j.Ends, ends[k])
				if i == 3 || cuts>>i&1 == 1 {
					if j.Kind = len(j.Ends); j.Kind > impl.JPlain {
						j.Name = "j" + strconv.Itoa(i)
					}
					n.Joints = append(n.Joints, j)
					j = impl.Joint{}
				}
			}
			out = append(out, n)
		}
	}
	return out
}

// allLies are all that LiesOk says to be lies of a net.
func allLies(n impl.Net) [][]int {
	out := [][]int{{}}
	for _, j := range n.Joints {
		var more [][]int
		for _, lies := range out {
			more = append(more, append(slices.Clone(lies), 0))
			if j.Kind == impl.JSwitch {
				more = append(more, append(slices.Clone(lies), 1), append(slices.Clone(lies), 2))
			}
		}
		out = more
	}
	return out
}

// allSpots are all spots of a net.
func allSpots(n impl.Net) []impl.Spot {
	var out []impl.Spot
	for p := range n.Pieces {
		for at := range n.Pieces[p].Len + 1 {
			out = append(out, impl.Spot{Piece: p, At: at, Way: 1}, impl.Spot{Piece: p, At: at, Way: -1})
		}
	}
	return out
}

// allBacks are all lists of at most so many steps of a net of two pieces.
func allBacks(most int) [][]impl.Step {
	return appendBacks([][]impl.Step{nil}, nil, most)
}

func appendBacks(out [][]impl.Step, back []impl.Step, most int) [][]impl.Step {
	if len(back) == most {
		return out
	}
	for p := range 2 {
		for _, way := range []int{1, -1} {
			longer := append(slices.Clone(back), impl.Step{Piece: p, Way: way})
			out = appendBacks(append(out, longer), longer, most)
		}
	}
	return out
}

func TestAllSmallNets(t *testing.T) {
	for _, lengths := range [][2]int{{1, 1}, {1, 2}, {2, 1}, {2, 2}} {
		t.Run(strconv.Itoa(lengths[0])+" and "+strconv.Itoa(lengths[1]), func(t *testing.T) {
			t.Parallel()
			seen := map[string]int{}
			for _, n := range smallNets(lengths) {
				wantAllTrains(t, n, seen)
			}
			for _, what := range []string{"code 0", "code 1", "code 2", "code 3", "code 4", "sits", "does not sit", "meets", "apart", "turned another one"} {
				if seen[what] < 300 {
					t.Errorf("%s: seen %d times alone", what, seen[what])
				}
			}
		})
	}
}

func wantAllTrains(t *testing.T, n impl.Net, seen map[string]int) {
	t.Helper()
	lies := allLies(n)
	var trains []impl.Train
	var slows []*slowTrain
	for _, s := range allSpots(n) {
		for long := 1; long < 6; long++ {
			for _, l := range lies {
				wantSlowPlace(t, n, l, s, long)
			}
			for _, back := range allBacks(3) {
				x := impl.Train{Front: s, Long: long, Back: back}
				ok := impl.TrainOk(n, x)
				if ok != (slowTrainOf(n, x) != nil) {
					t.Fatalf("TrainOk(%v, %v) is %t", n, x, ok)
				}
				if ok {
					trains, slows = append(trains, x), append(slows, wantSlowTrain(t, n, x))
				}
			}
		}
	}
	for i, x := range trains {
		for _, l := range lies {
			sits := impl.Sits(n, l, x)
			if sits != slows[i].sits(l, x) {
				t.Fatalf("Sits(%v, %v, %v) is %t", n, l, x, sits)
			}
			seen[map[bool]string{true: "sits", false: "does not sit"}[sits]]++
			for far := range 7 {
				seen["code "+strconv.Itoa(wantSlowMove(t, n, l, x, far).Code)]++
			}
		}
		for k := i % 5; k < len(trains); k += 5 {
			got := impl.Meet(n, x, trains[k])
			if got != slows[i].meets(slows[k]) {
				t.Fatalf("Meet(%v, %v, %v) is %t", n, x, trains[k], got)
			}
			seen[map[bool]string{true: "meets", false: "apart"}[got]]++
		}
		if trainText(n, impl.Turned(n, impl.Turned(n, x))) != trainText(n, x) {
			seen["turned another one"]++
		}
	}
}

// someLies are right ones, often those over which a train can go.
func (d *dice) someLies(n impl.Net) []int {
	out := make([]int, len(n.Joints))
	for j := range out {
		if n.Joints[j].Kind == impl.JSwitch && d.below(8) > 0 {
			out[j] = 1 + d.below(2)
		}
	}
	return out
}

func (d *dice) someSpot(n impl.Net) impl.Spot {
	p := d.below(len(n.Pieces))
	return impl.Spot{Piece: p, At: d.below(n.Pieces[p].Len + 1), Way: 2*d.below(2) - 1}
}

// someTrain is one that lies over joints as it falls, as long as there is room. It sits more often with lies.
func (d *dice) someTrain(n impl.Net, lies []int) impl.Train {
	s := &slowNet{net: n}
	out := impl.Train{Front: d.someSpot(n)}
	here := slowSpot{out.Front.Piece, out.Front.At, out.Front.Way}
	for range 1 + d.below(25) {
		next, ok := s.back(here)
		if !ok {
			e, _ := s.endAt(slowSpot{here.piece, here.at, -here.way})
			j, place := s.jointAt(e)
			ways := exits(n.Joints[j].Kind, place)
			if len(ways) == 0 {
				break
			}
			x := ways[d.below(len(ways))]
			if n.Joints[j].Kind == impl.JSwitch && place == 0 && lies[j] != 0 && d.below(8) > 0 {
				x = ways[lies[j]-1]
			}
			here = s.behind(n.Joints[j].Ends[x[0]])
			here.way = -here.way
			out.Back = append(out.Back, impl.Step{Piece: here.piece, Way: here.way})
			next, _ = s.back(here)
		}
		here = next
		out.Long++
	}
	return out
}

func TestTrainsOfAnyNet(t *testing.T) {
	d := &dice{state: 71}
	seen := map[string]int{}
	for i := range 20000 {
		n := d.rightNet()
		lies := d.someLies(n)
		x, y := d.someTrain(n, lies), d.someTrain(n, lies)
		if x.Long == 0 || y.Long == 0 {
			continue
		}
		slow, other := wantSlowTrain(t, n, x), wantSlowTrain(t, n, y)
		if slow == nil || other == nil {
			t.Fatalf("case %d: the test's own trains are none: %v, %v", i, x, y)
		}
		if got := impl.Meet(n, x, y); got != slow.meets(other) {
			t.Fatalf("case %d: Meet(%v, %v, %v) is %t", i, n, x, y, got)
		}
		if got := impl.Sits(n, lies, x); got != slow.sits(lies, x) {
			t.Fatalf("case %d: Sits(%v, %v, %v) is %t", i, n, lies, x, got)
		}
		wantSlowPlace(t, n, lies, d.someSpot(n), 1+d.below(30))
		far := d.below(40)
		m := wantSlowMove(t, n, lies, x, far)
		seen["code "+strconv.Itoa(m.Code)]++
		if len(m.Train.Back) > 3 {
			seen["over many pieces"]++
		}
		if len(m.Over) > 5 {
			seen["far"]++
		}
		wantTogether(t, n, lies, x, m, d.below(m.Far+1))
		wantThereAndBack(t, n, lies, x, m)
	}
	for _, what := range []string{"code 0", "code 1", "code 2", "code 3", "code 4", "over many pieces", "far"} {
		if seen[what] < 300 {
			t.Errorf("%s: seen %d times alone", what, seen[what])
		}
	}
}

// wantTogether asks that it comes to the same whether a train moves at once or in two parts.
func wantTogether(t *testing.T, n impl.Net, lies []int, x impl.Train, all impl.Moved, first int) {
	t.Helper()
	if all.Code == 4 {
		return
	}
	a := impl.Move(n, lies, x, first)
	b := impl.Move(n, lies, a.Train, all.Far-first)
	if a.Code != 0 || b.Code != 0 || trainText(n, b.Train) != trainText(n, all.Train) {
		t.Fatalf("%v, moved by %d at once, is %v, but by %d and then by %d it is %v, then %v", x, all.Far, all, first, all.Far-first, a, b)
	}
	if !impl.TrainOk(n, b.Train) || !impl.Sits(n, lies, b.Train) {
		t.Fatalf("%v, moved, is %v: no train, or it does not sit", x, b.Train)
	}
}

// wantThereAndBack asks that a train that moves, turns, moves as far, and turns again lies where it did.
func wantThereAndBack(t *testing.T, n impl.Net, lies []int, x impl.Train, there impl.Moved) {
	t.Helper()
	if there.Code == 4 {
		return
	}
	back := impl.Move(n, lies, impl.Turned(n, there.Train), there.Far)
	if back.Code != 0 || !slices.Equal(impl.Body(n, impl.Turned(n, back.Train)), impl.Body(n, x)) {
		t.Fatalf("%v, moved to %v and back, is %v", x, there.Train, back)
	}
}

// Rings in which the steps of a train are about as many as there may be.
func TestTrainsWithMostSteps(t *testing.T) {
	d := &dice{state: 72}
	seen := map[string]int{}
	for range 800 {
		lengths := make([]int, 1+d.below(6))
		for i := range lengths {
			lengths[i] = 1 + d.below(2)*d.below(4)
		}
		n := hoop(lengths...)
		lies := make([]int, len(n.Joints))
		front := d.below(len(lengths))
		at := d.below(lengths[front] + 1)
		long := at
		for i := range 198 + d.below(4) {
			long += lengths[(front+1000*len(lengths)-1-i)%len(lengths)]
		}
		long += d.below(2)
		s := impl.Spot{Piece: front, At: at, Way: 1}
		wantSlowPlace(t, n, lies, s, long)
		wantSlowTrain(t, n, round(n, front, at, long))
		p := impl.Place(n, lies, s, long)
		if !p.Ok {
			seen["not placed"]++
			continue
		}
		seen["back "+strconv.Itoa(len(p.Train.Back))]++
		seen["code "+strconv.Itoa(wantSlowMove(t, n, lies, p.Train, d.below(30)).Code)]++
	}
	for _, what := range []string{"not placed", "back 199", "back 200", "code 0", "code 6"} {
		if seen[what] < 30 {
			t.Errorf("%s: seen %d times alone", what, seen[what])
		}
	}
}

// anyTrain is one with some of it thrown about.
func (d *dice) anyTrain(n impl.Net, lies []int) impl.Train {
	x := d.someTrain(n, lies)
	for range d.below(3) {
		switch d.below(8) {
		case 0:
			x.Front.Piece = d.number()
		case 1:
			x.Front.At = d.number()
		case 2:
			x.Front.Way = d.number()
		case 3:
			x.Long = []int{x.Long - 1, x.Long + 1, 100000, 100001, d.number()}[d.below(5)]
		case 4:
			x.Back = longer(x.Back, d.below(3))
		case 5:
			x.Back = x.Back[:d.below(len(x.Back)+1)]
		case 6, 7:
			if len(x.Back) > 0 {
				s := &x.Back[d.below(len(x.Back))]
				*s = []impl.Step{{Piece: d.number(), Way: s.Way}, {Piece: s.Piece, Way: d.number()}, {Piece: s.Piece, Way: -s.Way}}[d.below(3)]
			}
		}
	}
	return copyTrain(x)
}

func (d *dice) anyLies(n impl.Net) []int {
	out := d.someLies(n)
	switch d.below(8) {
	case 0:
		out = longer(out, 1)
	case 1:
		out = out[:len(out)-1]
	case 2:
		out[d.below(len(out))] = d.number()
	}
	return roomy(out, 77)
}

func TestTrainsAnyArgument(t *testing.T) {
	d := &dice{state: 73}
	seen := map[string]int{}
	for i := range 12000 {
		n := copyOf(d.rightNet())
		lies := d.anyLies(n)
		sound := d.someLies(n)
		x, y := d.anyTrain(n, sound), d.anyTrain(n, sound)
		if d.below(10) == 0 {
			n.Pieces[d.below(len(n.Pieces))].Len = d.number()
		}
		spot, long := d.someSpotOr(n, x.Front), []int{1, 5, 20, 100000, d.number()}[d.below(5)]
		far := []int{0, 1, 5, 20, 40, 60, 10000, 10001, -1, d.number()}[d.below(10)]
		netBefore, liesBefore, xBefore, yBefore := whole(copyOf(n)), slices.Clone(lies[:cap(lies)]), wholeTrain(copyTrain(x)), wholeTrain(copyTrain(y))
		what := "case " + strconv.Itoa(i)

		if impl.LiesOk(n, lies) != slowLiesOk(n, lies) {
			t.Fatalf("%s: LiesOk(%v, %v) is %t", what, n, lies, impl.LiesOk(n, lies))
		}
		slow, other := wantSlowTrain(t, n, x), wantSlowTrain(t, n, y)
		if got := impl.Meet(n, x, y); got != (slow != nil && other != nil && slow.meets(other)) {
			t.Fatalf("%s: Meet(%v, %v, %v) is %t", what, n, x, y, got)
		}
		if got := impl.Sits(n, lies, x); got != (slowLiesOk(n, lies) && slow != nil && slow.sits(lies, x)) {
			t.Fatalf("%s: Sits(%v, %v, %v) is %t", what, n, lies, x, got)
		}
		wantSlowPlace(t, n, lies, spot, long)
		m := wantSlowMove(t, n, lies, x, far)
		seen["code "+strconv.Itoa(m.Code)]++

		body, turned, placed := impl.Body(n, x), impl.Turned(n, x), impl.Place(n, lies, spot, long)
		wantApart(t, what+", Body", body, n, lies, x)
		wantApart(t, what+", Turned", turned, n, lies, x)
		wantApart(t, what+", Place", placed, n, lies)
		wantApart(t, what+", Move", m, n, lies, x)
		wantApart(t, what+", Move and Move", m, impl.Move(n, lies, x, far))
		spoil(body[:cap(body)], part(99, 99, 99))
		spoil(m.Over[:cap(m.Over)], part(99, 99, 99))
		for _, back := range [][]impl.Step{turned.Back, placed.Train.Back, m.Train.Back} {
			spoil(back[:cap(back)], impl.Step{Piece: 99, Way: 99})
		}
		if !reflect.DeepEqual(whole(n), netBefore) || !slices.Equal(lies[:cap(lies)], liesBefore) || !reflect.DeepEqual(wholeTrain(x), xBefore) || !reflect.DeepEqual(wholeTrain(y), yBefore) {
			t.Fatalf("%s: it was written into an argument", what)
		}
		wantSlowMove(t, n, lies, x, far)
	}
	for _, code := range []string{"code 0", "code 1", "code 2", "code 3", "code 4", "code 5"} {
		if seen[code] < 25 {
			t.Errorf("%s: seen %d times alone", code, seen[code])
		}
	}
}

// someSpotOr is a spot of the net, or a spot that may be none.
func (d *dice) someSpotOr(n impl.Net, other impl.Spot) impl.Spot {
	if d.below(2) == 0 || impl.NetOk(n) != (impl.Fault{}) {
		return other
	}
	return d.someSpot(n)
}

func (d *dice) wildTrain() impl.Train {
	out := impl.Train{Front: impl.Spot{Piece: d.number(), At: d.number(), Way: d.number()}, Long: d.number()}
	for range d.below(4) {
		out.Back = append(out.Back, impl.Step{Piece: d.number(), Way: d.number()})
	}
	return out
}

// Numbers that are none at all, in every place.
func TestTrainsWildNumbers(t *testing.T) {
	d := &dice{state: 74}
	trains := 0
	for range 100000 {
		n := d.net()
		x, y := d.wildTrain(), d.wildTrain()
		if d.below(2) == 0 {
			x.Front = impl.Spot{Piece: d.below(3), At: d.below(110), Way: 2*d.below(2) - 1}
		}
		lies := d.wildNumbers()
		if d.below(2) == 0 {
			lies = make([]int, len(n.Joints))
		}
		if wantSlowTrain(t, n, x) != nil {
			trains++
		}
		if impl.LiesOk(n, lies) != slowLiesOk(n, lies) {
			t.Fatalf("LiesOk(%v, %v) is %t", n, lies, impl.LiesOk(n, lies))
		}
		a, b := slowTrainOf(n, x), slowTrainOf(n, y)
		if impl.Meet(n, x, y) != (a != nil && b != nil && a.meets(b)) || impl.Sits(n, lies, x) != (slowLiesOk(n, lies) && a != nil && a.sits(lies, x)) {
			t.Fatalf("Meet or Sits of %v, %v, %v, %v", n, lies, x, y)
		}
		wantSlowPlace(t, n, lies, x.Front, d.number())
		wantSlowMove(t, n, lies, x, d.number())
	}
	if trains < 500 {
		t.Errorf("of them %d were trains", trains)
	}
}

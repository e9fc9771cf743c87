package tests

import (
	"slices"
	"strconv"
	"strings"
	"testing"

	"loop.example/signalbox/impl"
)

// What chapter 9 says, sentence by sentence and with no care for time: the answers of the program are held against it.

// slowWorld is a right site with what chapter 8 makes of it.
type slowWorld struct {
	site   impl.Site
	net    *slowNet
	ways   []impl.Route
	plan   impl.Plan
	layout impl.Layout
	points []int // the joints of the switches
	pairs  [][2]impl.End
	seen   map[string]int // what was come to, so that the cases are known to be worth something
}

// slowWorldOf is nil for a site that is not right.
func slowWorldOf(s impl.Site) *slowWorld {
	if slowSite(s) != 0 {
		return nil
	}
	w := &slowWorld{
		site: s, net: &slowNet{net: s.Net, signals: s.Signals},
		ways: slowSiteWays(s), plan: slowPlanOf(s), layout: slowLayoutOf(s), points: slowSwitches(s.Net), seen: map[string]int{},
	}
	for _, j := range s.Net.Joints {
		for k := range j.Ends {
			for _, x := range exits(j.Kind, k) {
				if k < x[0] {
					w.pairs = append(w.pairs, [2]impl.End{j.Ends[k], j.Ends[x[0]]})
				}
			}
		}
	}
	return w
}

func (w *slowWorld) isBox(b impl.Box) bool {
	if !b.Ok || !slowState(w.layout, b.Count) || !slowFrame(w.plan, b.Frame) || !slowLiesOk(w.site.Net, b.Lies) {
		return false
	}
	trains := len(w.site.Fronts)
	if len(b.Stuck) != len(w.points) || len(b.Works) != len(w.site.Signals) || len(b.Trains) != trains || len(b.Free) != trains || len(b.Speeds) != trains {
		return false
	}
	for _, lamps := range b.Works {
		if len(lamps) != 4 {
			return false
		}
	}
	for i, x := range b.Trains {
		if slowTrainOf(w.site.Net, x) == nil || x.Long != w.site.Longs[i] || b.Speeds[i] < 0 || b.Speeds[i] > 200 {
			return false
		}
	}
	return true
}

// count does what can be done.
func (w *slowWorld) count(b *impl.Box, op, of, n int) int {
	code, state := slowDo(w.layout, b.Count, impl.CountEvent{Op: op, Of: of, Dir: n})
	if code == 0 {
		b.Count = state
	}
	return code
}

func (w *slowWorld) frame(b *impl.Box, op, of, n int) int {
	code, frame := slowDoFrame(w.plan, b.Frame, impl.FrameEvent{Op: op, Of: of, Lie: n})
	if code == 0 {
		b.Frame = frame
	}
	return code
}

func (w *slowWorld) tell(b *impl.Box) {
	for section := range w.plan.Sections {
		told := b.Count.Sections[section].Told
		if told == 0 && b.Frame.Occ[section] {
			w.frame(b, 4, section, 0)
		}
		if told != 0 && !b.Frame.Occ[section] {
			w.frame(b, 3, section, 0)
		}
	}
}

func (w *slowWorld) start() impl.Box {
	trains := len(w.site.Fronts)
	b := impl.Box{
		Ok: true, Count: impl.BeginCount(w.layout), Frame: impl.BeginFrame(w.plan), Lies: make([]int, len(w.site.Net.Joints)),
		Stuck: make([]bool, len(w.points)), Free: make([]bool, trains), Speeds: make([]int, trains),
	}
	for _, j := range w.points {
		b.Lies[j] = 1
	}
	for range w.site.Signals {
		b.Works = append(b.Works, []bool{true, true, true, true})
	}
	for i, front := range w.site.Fronts {
		x := slowPlace(w.site.Net, b.Lies, front, w.site.Longs[i]).Train
		b.Trains = append(b.Trains, x)
		for _, section := range []int{front.Piece, slowTrainOf(w.site.Net, x).tail.piece} {
			w.count(&b, 1, slices.Index(w.layout.Counters, counter(-1, section)), 1)
		}
	}
	w.tell(&b)
	return b
}

func (w *slowWorld) row(b impl.Box) impl.Row {
	r := impl.Row{}
	for i := range w.site.Signals {
		next, far, open := -1, 0, false
		for k, way := range w.ways {
			if way.From == i && b.Frame.Ways[k].State == 2 && !open {
				next, open = way.To, true
				for _, p := range way.Parts {
					far += p.To - p.From
				}
			}
		}
		r.Next, r.Far, r.Open = append(r.Next, next), append(r.Far, min(far, 1000000)), append(r.Open, open)
		r.Works = append(r.Works, slices.Clone(b.Works[i]))
	}
	return r
}

// someoneOn is whether a front or a part of a body is on a section.
func (w *slowWorld) someoneOn(b impl.Box, section int) bool {
	for _, x := range b.Trains {
		for _, c := range slowTrainOf(w.site.Net, x).cells {
			if c.piece == section {
				return true
			}
		}
		if x.Front.Piece == section {
			return true
		}
	}
	return false
}

// happens is the code of what happens, which it does in place.
func (w *slowWorld) happens(b *impl.Box, x impl.Happen) int {
	many := map[int]int{4: len(w.points), 5: len(w.points), 6: len(w.site.Signals), 7: len(w.site.Signals), 12: len(b.Trains), 13: len(b.Trains)}
	most := map[int]int{6: 3, 12: 200}
	switch x.Op {
	case 1, 2:
		return w.frame(b, x.Op, x.Of, x.N)
	case 3:
		return w.frame(b, 6, x.Of, x.N)
	case 8, 9, 10, 11:
		if x.Op == 11 && w.someoneOn(*b, x.Of) {
			return 9
		}
		return w.count(b, x.Op-6, x.Of, x.N)
	}
	if x.Of < 0 || x.Of >= many[x.Op] || x.N < 0 || x.N > most[x.Op] {
		return 1
	}
	switch x.Op {
	case 4, 5:
		b.Stuck[x.Of] = x.Op == 4
	case 6:
		b.Works[x.Of][x.N] = false
	case 7:
		b.Works[x.Of] = []bool{true, true, true, true}
	case 12:
		b.Speeds[x.Of] = x.N
	case 13:
		b.Trains[x.Of] = slowTrainOf(w.site.Net, b.Trains[x.Of]).turned()
		b.Free[x.Of] = false
	}
	return 0
}

func (w *slowWorld) turnSwitches(b *impl.Box) {
	for k, j := range w.points {
		want := b.Frame.Points[k].Want
		if !b.Stuck[k] && b.Lies[j] != want {
			if b.Lies[j] != 0 {
				b.Lies[j] = 0
			} else {
				b.Lies[j] = want
			}
		}
		if b.Frame.Points[k].Lies != b.Lies[j] {
			w.frame(b, 5, k, b.Lies[j])
		}
	}
}

// axle passes the counter over which one comes from a piece when one looks so.
func (w *slowWorld) axle(b *impl.Box, piece, way int) {
	from := end(piece, (way+1)/2)
	to, _, _ := w.net.overAs(b.Lies, from)
	for k, p := range w.pairs {
		dir := 0
		if p == [2]impl.End{from, to} {
			dir = 1
		}
		if p == [2]impl.End{to, from} {
			dir = -1
		}
		if dir != 0 {
			w.seen["axle "+strconv.Itoa(dir)+" code "+strconv.Itoa(w.count(b, 1, k, dir))]++
		}
	}
}

// unit moves a train by one, if it moves; bad when it cannot.
func (w *slowWorld) unit(b *impl.Box, i int, shows []int, passed map[int]int) (moves, bad bool) {
	x := b.Trains[i]
	front := slowSpot{x.Front.Piece, x.Front.At, x.Front.Way}
	signal := w.net.signalAt(front)
	if signal >= 0 && shows[signal] < 1 {
		w.seen["signal shows "+strconv.Itoa(shows[signal])]++
		return false, false
	}
	if by, is := passed[signal]; signal >= 0 && is {
		w.seen["signal passed, by itself "+strconv.FormatBool(by == i)]++
		return false, false
	}
	if _, ends := w.net.endAt(front); signal < 0 && ends && !b.Free[i] {
		w.seen["end without leave"]++
		return false, false
	}
	tail := slowTrainOf(w.site.Net, x).tail
	m := slowMove(w.site.Net, b.Lies, x, 1)
	w.seen["move code "+strconv.Itoa(m.Code)]++
	if m.Code != 0 {
		return false, m.Code != 1
	}
	b.Trains[i] = m.Train
	if signal >= 0 {
		w.seen["signal passed"]++
		passed[signal] = i
		b.Free[i] = true
	}
	frontComes, tailComes := m.Train.Front.Piece != front.piece, slowTrainOf(w.site.Net, m.Train).tail.piece != tail.piece
	if frontComes {
		w.axle(b, front.piece, front.way)
	}
	if tailComes {
		w.axle(b, tail.piece, tail.way)
	}
	w.seen["front comes "+strconv.FormatBool(frontComes)+", tail "+strconv.FormatBool(tailComes)]++
	return true, false
}

// tick takes a box of the site.
func (w *slowWorld) tick(given impl.Box, list []impl.Happen) impl.Shot {
	if len(list) > 100 {
		return impl.Shot{}
	}
	b := copyBox(given)
	shot := impl.Shot{Ok: true}
	for _, x := range list {
		shot.Codes = append(shot.Codes, w.happens(&b, x))
	}
	w.frame(&b, 7, 0, 0)
	w.tell(&b)
	w.turnSwitches(&b)
	_, shot.Shows, _ = slowShows(w.row(b))
	passed := map[int]int{}
	for i := range b.Trains {
		far := 0
		for far < b.Speeds[i] {
			moves, bad := w.unit(&b, i, shot.Shows, passed)
			if bad {
				shot.Bad = append(shot.Bad, i)
			}
			if !moves {
				break
			}
			far++
		}
		shot.Fars = append(shot.Fars, far)
	}
	w.tell(&b)
	for k := range b.Trains {
		for i := range k {
			if slowTrainOf(w.site.Net, b.Trains[i]).meets(slowTrainOf(w.site.Net, b.Trains[k])) {
				shot.Struck = append(shot.Struck, []int{i, k})
			}
		}
	}
	slices.SortFunc(shot.Struck, slices.Compare)
	shot.Box = b
	return shot
}

func (w *slowWorld) drive(script [][]impl.Happen) []impl.Shot {
	if len(script) > 400 {
		return nil
	}
	b := w.start()
	var out []impl.Shot
	for _, list := range script {
		out = append(out, w.tick(b, list))
		if b = out[len(out)-1].Box; !b.Ok {
			break
		}
	}
	return out
}

func (w *slowWorld) shown(b impl.Box) string {
	var lines []string
	for p, x := range w.site.Net.Pieces {
		sign := []string{".", "#", "~", "!"}[b.Count.Sections[p].Told]
		if sign == "." && slowLocked(w.plan, b.Frame, p) >= 0 {
			sign = "="
		}
		words := []string{x.Name + sign}
		for i, train := range b.Trains {
			for _, part := range slowParts(slowTrainOf(w.site.Net, train).cells) {
				if part.Piece == p {
					words = append(words, string(rune('A'+i))+strconv.Itoa(part.From)+"-"+strconv.Itoa(part.To))
				}
			}
		}
		lines = append(lines, strings.Join(words, " "))
	}
	_, shows, _ := slowShows(w.row(b))
	for i, x := range w.site.Signals {
		lines = append(lines, x.Name+" "+map[int]string{-1: "dark", 0: "stop", 1: "slow", 2: "near", 3: "free"}[shows[i]])
	}
	return strings.Join(append(lines, ""), "\n")
}

// wantSlowBox holds what is told of a box against the world (nil for a site that is not right).
func wantSlowBox(t *testing.T, w *slowWorld, s impl.Site, b impl.Box) {
	t.Helper()
	row, text := impl.Row{}, ""
	if w != nil && w.isBox(b) {
		row, text = w.row(b), w.shown(b)
	}
	if got := wholeRowText(impl.RowOf(s, b)); got != wholeRowText(row) {
		t.Fatalf("%v\n%s\nRowOf is %s, not %s", s, boxText(s.Net, b), got, wholeRowText(row))
	}
	if got := impl.Shown(s, b); got != text {
		t.Fatalf("%v\n%s\nShown is\n%s\nnot\n%s", s, boxText(s.Net, b), got, text)
	}
}

func wantSlowTick(t *testing.T, w *slowWorld, s impl.Site, b impl.Box, list []impl.Happen) impl.Shot {
	t.Helper()
	want := impl.Shot{}
	if w != nil && w.isBox(b) {
		want = w.tick(b, list)
	}
	got := impl.Tick(s, b, list)
	if shotText(s.Net, got) != shotText(s.Net, want) {
		t.Fatalf("%v\n%s\n%v: Tick is\n%s\nnot\n%s", s, boxText(s.Net, b), list, shotText(s.Net, got), shotText(s.Net, want))
	}
	return got
}

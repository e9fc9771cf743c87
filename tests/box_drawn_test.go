package tests

import (
	"slices"
	"strconv"
	"sync"
	"testing"

	"loop.example/signalbox/impl"
)

// Sites as they fall, with trains that are led over them and all that may happen to these.

// bothWays has a signal each way on most pieces that have room for one. No way begins on a piece at which a switch has its tip and goes over that, so there are few on those.
func (d *dice) bothWays(n impl.Net) []impl.Signal {
	tips := map[int]int{}
	for _, j := range slowSwitches(n) {
		tips[n.Joints[j].Ends[0].Piece]++
	}
	var out []impl.Signal
	for p, x := range n.Pieces {
		for _, way := range []int{1, -1} {
			if x.Len > 1 && (d.below(8) > 0) == (tips[p] == 0) && len(out) < impl.MaxSignals {
				out = append(out, post(len(out), p, 1+d.below(x.Len-1), way))
			}
		}
	}
	return out
}

// loops leads from a piece over so many passing loops, each behind one more piece, and tells the last piece.
func (b *builder) loops(first, count int) int {
	for range count {
		next := b.piece()
		b.join(impl.JPlain, end(first, 1), end(next, 0))
		last := b.piece()
		b.join(impl.JPlain, end(b.diamonds(next, 1), 1), end(last, 0))
		first = last
	}
	return first
}

// drawnNet is one as it falls, or a ring, a line with passing loops, a yard, a station.
func (d *dice) drawnNet() impl.Net {
	b := &builder{}
	switch d.below(10) {
	case 0:
		return yard()
	case 1:
		return station(2+d.below(2), 2+d.below(3)).Net
	case 2:
		return hoop(same(1, 3+d.below(5))...)
	case 3, 4:
		first := b.piece()
		b.join(impl.JPlain, end(b.loops(first, 1+d.below(3)), 1), end(first, 0))
		return b.net
	case 5, 6:
		b.chain(b.loops(b.begin(), 1+d.below(3)), 0)
		return b.net
	}
	for {
		if n := d.rightNet(); len(n.Pieces) > 2 && slowSiteTrack(onSite(n)) {
			return n
		}
	}
}

// drawnSite is a right one. Its trains stand where a signal is ahead of them, if that can be helped.
func (d *dice) drawnSite() impl.Site {
	n := d.drawnNet()
	least, shortest := 2+d.below(8), 2+d.below(8)
	if d.below(6) == 0 {
		least = 1
	}
	for p := range n.Pieces {
		n.Pieces[p].Len = least + d.below(6)
		shortest = min(shortest, n.Pieces[p].Len)
	}
	s := impl.Site{Net: n, Signals: d.bothWays(n), Hold: 1 + d.below(6)}
	if impl.SiteOk(s) != 0 {
		s.Signals = s.Signals[:min(4, len(s.Signals))]
	}
	ways := impl.Ways(s)
	most := 1 + d.below(min(6, 1+len(n.Pieces)/4))
	for range 40 {
		more := s
		front := d.someSpot(n)
		more.Fronts = append(slices.Clone(s.Fronts), front)
		more.Longs = append(slices.Clone(s.Longs), 1+d.below(shortest))
		leads := len(waysFor(s, ways, impl.Train{Front: front})) > 0 || d.below(20) == 0
		if len(s.Fronts) < most && leads && impl.SiteOk(more) == 0 {
			s = more
		}
	}
	return s
}

// waysFor are those from a signal of the train's piece that it has not passed yet.
func waysFor(s impl.Site, ways []impl.Route, x impl.Train) []int {
	var out []int
	for k, r := range ways {
		g := s.Signals[r.From]
		if g.Piece == x.Front.Piece && g.Way == x.Front.Way && (g.At-x.Front.At)*g.Way >= 0 {
			out = append(out, k)
		}
	}
	return out
}

// noWayOn is whether a train is at a buffer, or past the last signal of its piece and may not go on.
func noWayOn(s impl.Site, b impl.Box, i int) bool {
	x := b.Trains[i].Front
	net := &slowNet{net: s.Net}
	if e, ends := net.endAt(slowSpot{x.Piece, x.At, x.Way}); ends {
		_, _, code := net.overAs(b.Lies, e)
		return code == 1 || !b.Free[i]
	}
	return !b.Free[i]
}

// leads is what brings trains on: ways for them, and speeds. Where there is no way on they turn.
func (d *dice) leads(s impl.Site, ways []impl.Route, b impl.Box) []impl.Happen {
	var out []impl.Happen
	for i, x := range b.Trains {
		fit := waysFor(s, ways, x)
		switch {
		case b.Speeds[i] == 0 || d.below(8) == 0:
			out = append(out, impl.Happen{Op: impl.HSpeed, Of: i, N: []int{0, 1, 2, 3, 5, 8, 20, 200}[d.below(8)]})
		case len(fit) > 0 && d.below(3) > 0:
			out = append(out, impl.Happen{Op: impl.HAsk, Of: fit[d.below(len(fit))]})
		case len(fit) == 0 && noWayOn(s, b, i) || d.below(60) == 0:
			out = append(out, impl.Happen{Op: impl.HTurn, Of: i})
		}
	}
	return out
}

// trouble is something that goes wrong, is mended, or is done by hand; now and then it is nothing that there is.
func (d *dice) trouble(s impl.Site, ways []impl.Route, l impl.Layout) impl.Happen {
	x := impl.Happen{Op: 1 + d.below(13)}
	some := func(count int) int { return d.below(max(1, count)) }
	switch x.Op {
	case impl.HAsk, impl.HBack:
		x.Of = some(len(ways))
	case impl.HHand:
		x.Of, x.N = some(len(slowSwitches(s.Net))), 1+d.below(2)
	case impl.HStick, impl.HFree:
		x.Of = some(len(slowSwitches(s.Net)))
	case impl.HLamp:
		x.Of, x.N = some(len(s.Signals)), d.below(4)
	case impl.HBulbs:
		x.Of = some(len(s.Signals))
	case impl.HGhost:
		x.Of, x.N = some(len(l.Counters)), 2*d.below(2)-1
	case impl.HDead, impl.HAlive:
		x.Of = some(len(l.Counters))
	case impl.HReset:
		x.Of = some(l.Sections)
	case impl.HSpeed:
		x.Of, x.N = some(len(s.Fronts)), d.below(201)
	case impl.HTurn:
		x.Of = some(len(s.Fronts))
	}
	switch d.below(40) {
	case 0:
		x.Op = d.number()
	case 1:
		x.Of = d.number()
	case 2:
		x.N = d.number()
	}
	return x
}

// mends is all that brings a site back to order: counters live, switches are free, lamps work, sections are reset.
func mends(s impl.Site, l impl.Layout) []impl.Happen {
	var out []impl.Happen
	for k := range l.Counters {
		out = append(out, impl.Happen{Op: impl.HAlive, Of: k})
	}
	for k := range slowSwitches(s.Net) {
		out = append(out, impl.Happen{Op: impl.HFree, Of: k})
	}
	for i := range s.Signals {
		out = append(out, impl.Happen{Op: impl.HBulbs, Of: i})
	}
	for p := range s.Net.Pieces {
		out = append(out, impl.Happen{Op: impl.HReset, Of: p})
	}
	return out[:min(100, len(out))]
}

// happenings is a tick's list. With less order there is more trouble.
func (d *dice) happenings(s impl.Site, ways []impl.Route, l impl.Layout, b impl.Box, order int) []impl.Happen {
	out := d.leads(s, ways, b)
	for d.below(order) == 0 && len(out) < 90 {
		out = append(out, d.trouble(s, ways, l))
	}
	if order < 40 && d.below(30) == 0 {
		out = mends(s, l)
	}
	return out
}

// tallyShot counts what was seen in a tick.
func tallyShot(seen map[string]int, before impl.Box, list []impl.Happen, x impl.Shot) {
	for i, h := range list {
		seen["op "+strconv.Itoa(h.Op)+" code "+strconv.Itoa(x.Codes[i])]++
	}
	for _, shows := range x.Shows {
		seen["shows "+strconv.Itoa(shows)]++
	}
	for i, far := range x.Fars {
		was, is := before.Trains[i], x.Box.Trains[i]
		if far > 0 {
			seen["moved"]++
		}
		if far > 0 && was.Front.Piece != is.Front.Piece {
			seen["came to another piece"]++
		}
		if x.Box.Free[i] && !before.Free[i] {
			seen["passed a signal"]++
		}
		if far > 0 && far < x.Box.Speeds[i] {
			seen["stopped"]++
		}
	}
	for k, h := range x.Box.Frame.Ways {
		seen["way "+strconv.Itoa(before.Frame.Ways[k].State)+" to "+strconv.Itoa(h.State)]++
	}
	for _, x := range x.Box.Count.Sections {
		seen["told "+strconv.Itoa(x.Told)]++
	}
	seen["bad"] += len(x.Bad)
	seen["struck"] += len(x.Struck)
}

// openBox is a box in which nobody is told to be anywhere: ways are clear on which trains are, that run as fast as they can.
func (d *dice) openBox(s impl.Site, p impl.Plan, l impl.Layout) impl.Box {
	b := impl.Start(s)
	b.Count, b.Frame = impl.BeginCount(l), impl.BeginFrame(p)
	for range 3 * len(p.Ways) {
		if done := impl.DoFrame(p, b.Frame, impl.FrameEvent{Op: impl.EAsk, Of: d.below(len(p.Ways))}); done.Code == 0 {
			b.Frame = done.Frame
		}
	}
	for k, j := range slowSwitches(s.Net) {
		b.Lies[j] = b.Frame.Points[k].Want
		b.Frame = impl.DoFrame(p, b.Frame, impl.FrameEvent{Op: impl.ELies, Of: k, Lie: b.Lies[j]}).Frame
	}
	for i := range b.Trains {
		b.Free[i], b.Speeds[i] = d.below(4) > 0, 200
	}
	return b
}

// oddBox is a box of the site in which what is counted, known and true has nothing to do with each other.
func (d *dice) oddBox(s impl.Site, p impl.Plan, l impl.Layout, b impl.Box) impl.Box {
	if d.below(3) == 0 {
		return d.openBox(s, p, l)
	}
	b = copyBox(b)
	for range d.below(6) {
		e := d.frameEvent(p)
		if d.below(2) == 0 {
			e = d.lead(p, b.Frame)
		}
		if done := impl.DoFrame(p, b.Frame, e); done.Code == 0 {
			b.Frame = done.Frame
		}
	}
	for range d.below(6) {
		if done := impl.DoCount(l, b.Count, d.event(l)); done.Code == 0 {
			b.Count = done.State
		}
	}
	b.Lies = d.someLies(s.Net)
	for k := range b.Stuck {
		b.Stuck[k] = d.below(3) == 0
	}
	for i := range b.Works {
		b.Works[i][d.below(4)] = d.below(2) == 0
	}
	for i := range b.Trains {
		b.Free[i], b.Speeds[i] = d.below(3) > 0, []int{0, 1, 2, 5, 9, 30, 200}[d.below(7)]
		lies := b.Lies
		if d.below(4) == 0 {
			lies = d.someLies(s.Net)
		}
		if x := slowPlace(s.Net, lies, d.someSpot(s.Net), s.Longs[i]); x.Ok && d.below(3) > 0 {
			b.Trains[i] = x.Train
		}
	}
	return b
}

// tallies are counted by tests that run side by side.
type tallies struct {
	lock sync.Mutex
	seen map[string]int
}

func (a *tallies) add(seen map[string]int) {
	a.lock.Lock()
	defer a.lock.Unlock()
	for what, times := range seen {
		a.seen[what] += times
	}
}

func TestBoxesOfAnySite(t *testing.T) {
	all := &tallies{seen: map[string]int{}}
	t.Run("all", func(t *testing.T) {
		for part := range 8 {
			t.Run(strconv.Itoa(part), func(t *testing.T) {
				t.Parallel()
				d := &dice{state: uint64(91 + part)}
				seen := map[string]int{}
				for range 100 {
					d.wantSlowRun(t, seen)
				}
				all.add(seen)
			})
		}
	})
	wantSeen(t, all.seen, 100, "signal shows 0", "signal shows -1", "end without leave", "signal passed", "axle 1 code 0", "axle -1 code 0",
		"move code 0", "move code 1", "move code 2", "move code 3", "move code 4",
		"front comes false, tail false", "front comes true, tail false", "front comes false, tail true", "front comes true, tail true",
		"moved", "came to another piece", "passed a signal", "stopped", "bad", "struck",
		"shows -1", "shows 0", "shows 1", "shows 2", "told 0", "told 1", "told 2", "told 3", "way 0 to 1", "way 0 to 2", "way 2 to 2", "way 2 to 4", "way 4 to 0", "way 4 to 4")
	wantSeen(t, all.seen, 20, "axle 1 code 2", "axle -1 code 2", "signal passed, by itself true", "signal passed, by itself false", "shows 3", "way 1 to 2", "way 2 to 1",
		"op 1 code 0", "op 1 code 1", "op 1 code 2", "op 1 code 3", "op 1 code 4", "op 2 code 0", "op 2 code 2", "op 3 code 0", "op 3 code 1", "op 3 code 2", "op 3 code 3",
		"op 4 code 0", "op 5 code 0", "op 6 code 0", "op 7 code 0", "op 8 code 0", "op 8 code 2", "op 9 code 0", "op 10 code 0",
		"op 11 code 0", "op 11 code 3", "op 11 code 4", "op 11 code 9", "op 12 code 0", "op 13 code 0")
	wantSeen(t, all.seen, 3, "op 1 code 6")
}

// wantSlowRun drives over one site.
func (d *dice) wantSlowRun(t *testing.T, seen map[string]int) {
	t.Helper()
	s := d.drawnSite()
	w := slowWorldOf(s)
	w.seen = seen
	b := impl.Start(s)
	if got, want := boxText(s.Net, b), boxText(s.Net, w.start()); got != want {
		t.Fatalf("%v: Start is\n%s\nnot\n%s", s, got, want)
	}
	order := []int{2, 10, 40, 1000}[d.below(4)]
	odd := d.below(3) == 0
	for step := range 40 {
		if odd && d.below(4) == 0 {
			b = d.oddBox(s, w.plan, w.layout, b)
		}
		list := d.happenings(s, w.ways, w.layout, b, order)
		x := wantSlowTick(t, w, s, b, list)
		tallyShot(seen, b, list, x)
		if b = x.Box; step%8 == 0 {
			wantSlowBox(t, w, s, b)
		}
	}
}

// All sites of two short pieces with all their signals, and one train wherever it can be.
func TestBoxesOfAllSmallSites(t *testing.T) {
	for part, lengths := range [][2]int{{2, 2}, {3, 2}, {1, 2}, {1, 1}} {
		t.Run(strconv.Itoa(lengths[0])+" and "+strconv.Itoa(lengths[1]), func(t *testing.T) {
			t.Parallel()
			d := &dice{state: uint64(31 + part)}
			sites := 0
			for _, n := range smallNets(lengths) {
				for _, front := range allSpots(n) {
					for long := 1; long <= min(lengths[0], lengths[1]); long++ {
						s := impl.Site{Net: n, Signals: smallSignals(n), Fronts: []impl.Spot{front}, Longs: []int{long}, Hold: 1 + d.below(3)}
						w := slowWorldOf(s)
						if w == nil {
							if impl.Start(s).Ok {
								t.Fatalf("%v: there is a box", s)
							}
							continue
						}
						sites++
						d.wantSmallSite(t, w)
					}
				}
			}
			if sites < 300 {
				t.Errorf("%d sites alone", sites)
			}
		})
	}
}

// wantSmallSite does some of all happenings to one box after the other.
func (d *dice) wantSmallSite(t *testing.T, w *slowWorld) {
	t.Helper()
	b := impl.Start(w.site)
	if got, want := boxText(w.site.Net, b), boxText(w.site.Net, w.start()); got != want {
		t.Fatalf("%v: Start is\n%s\nnot\n%s", w.site, got, want)
	}
	for range 12 {
		if d.below(3) == 0 {
			b = d.oddBox(w.site, w.plan, w.layout, b)
		}
		list := d.leads(w.site, w.ways, b)
		for range d.below(4) {
			list = append(list, d.trouble(w.site, w.ways, w.layout))
		}
		wantSlowBox(t, w, w.site, b)
		b = wantSlowTick(t, w, w.site, b, list).Box
	}
}

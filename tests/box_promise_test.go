package tests

import (
	"slices"
	"strconv"
	"testing"

	"loop.example/signalbox/impl"
)

// What is promised of each tick of a drive, whatever happens in it.

// safety is what makes a shot safe, by promise.
type safety struct {
	site     impl.Site
	ways     []impl.Route
	plan     impl.Plan
	layout   impl.Layout
	switches []int
}

func safetyOf(s impl.Site) safety {
	return safety{site: s, ways: impl.Ways(s), plan: impl.PlanOf(s), layout: impl.LayoutOf(s), switches: slowSwitches(s.Net)}
}

// struck is P8: no two meet, none is bad, no two are on one piece.
func (p safety) struck(x impl.Shot) string {
	if len(x.Struck) > 0 || len(x.Bad) > 0 {
		return "struck " + struckText(x.Struck) + ", bad " + numbersText(x.Bad)
	}
	on := map[int]int{}
	for i, train := range x.Box.Trains {
		for _, part := range impl.Body(p.site.Net, train) {
			if other, is := on[part.Piece]; is && other != i {
				return "two on piece " + strconv.Itoa(part.Piece)
			}
			on[part.Piece] = i
		}
	}
	return ""
}

// unseen is P9: where a part of a train is, the section is not told free, and the frame holds it for occupied.
func (p safety) unseen(x impl.Shot) string {
	for _, train := range x.Box.Trains {
		for _, part := range impl.Body(p.site.Net, train) {
			if x.Box.Count.Sections[part.Piece].Told == impl.Free || !x.Box.Frame.Occ[part.Piece] {
				return "unseen on piece " + strconv.Itoa(part.Piece)
			}
		}
	}
	return ""
}

// unseated is P10: all trains lie as switches do.
func (p safety) unseated(x impl.Shot) string {
	for i, train := range x.Box.Trains {
		if !impl.Sits(p.site.Net, x.Box.Lies, train) {
			return "train " + strconv.Itoa(i) + " does not sit"
		}
	}
	return ""
}

// misled is P11: a signal that shows more than stop has a way from it whose switches all truly lie as it wants them.
func (p safety) misled(x impl.Shot) string {
	for i, shows := range x.Shows {
		if shows > impl.AStop && !slices.ContainsFunc(p.liesFor(x.Box), func(r impl.Route) bool { return r.From == i }) {
			return "signal " + strconv.Itoa(i) + " shows " + strconv.Itoa(shows)
		}
	}
	return ""
}

// liesFor are the ways whose switches all truly lie as they want them.
func (p safety) liesFor(b impl.Box) []impl.Route {
	var out []impl.Route
	for k, w := range p.plan.Ways {
		fits := true
		for _, turn := range append(slices.Clone(w.Lies), w.Flanks...) {
			fits = fits && b.Lies[p.switches[turn.Switch]] == turn.Lie
		}
		if fits {
			out = append(out, p.ways[k])
		}
	}
	return out
}

// underway is whether a train that may go on has passed the signal of a way, and was not seen on the way yet, or is on a piece of it.
func (p safety) underway(b impl.Box, way int) bool {
	r := p.ways[way]
	g := p.site.Signals[r.From]
	for i, x := range b.Trains {
		passed := x.Front.Piece == g.Piece && x.Front.Way == g.Way && (x.Front.At-g.At)*g.Way > 0
		onIt := slices.ContainsFunc(r.Steps[1:], func(s impl.Step) bool { return s.Piece == x.Front.Piece })
		if b.Free[i] && (passed || onIt) {
			return true
		}
	}
	return false
}

// backs takes ways back that are held, and asks for others in their place.
func (d *dice) backs(p safety, b impl.Box) []impl.Happen {
	var out []impl.Happen
	for k, h := range b.Frame.Ways {
		if h.State != impl.WIdle && d.below(10) == 0 {
			out = append(out, impl.Happen{Op: impl.HBack, Of: k})
		}
	}
	for range d.below(3) {
		if len(p.ways) > 0 {
			out = append(out, impl.Happen{Op: impl.HAsk, Of: d.below(len(p.ways))})
		}
	}
	return out
}

// wantSafeRun drives over one site and asks for some of the promises at each tick. With anyBack ways are taken back under their trains too.
func (d *dice) wantSafeRun(t *testing.T, seen map[string]int, anyBack bool, asks func(p safety) []func(impl.Shot) string) {
	t.Helper()
	s := d.drawnSite()
	p := safetyOf(s)
	b := impl.Start(s)
	order := []int{2, 10, 40, 1000}[d.below(4)]
	for range 60 {
		list := d.happenings(s, p.ways, p.layout, b, order)
		list = append(list, d.backs(p, b)...)
		list = list[:min(100, len(list))]
		for i, x := range list {
			if x.Op == impl.HBack && !anyBack && x.Of >= 0 && x.Of < len(p.ways) && p.underway(b, x.Of) {
				list[i] = impl.Happen{Op: impl.HBulbs}
			}
		}
		x := impl.Tick(s, b, list)
		if !x.Ok {
			t.Fatalf("%v\n%s\n%v: not Ok", s, boxText(s.Net, b), list)
		}
		for _, ask := range asks(p) {
			if why := ask(x); why != "" {
				t.Fatalf("%s:\n%v\n%s\n%s\n%v\n%s", why, s, routesText(s.Net, p.ways), boxText(s.Net, b), list, shotText(s.Net, x))
			}
		}
		tallyShot(seen, b, list, x)
		b = x.Box
	}
}

func wantSafeRuns(t *testing.T, first uint64, anyBack bool, asks func(p safety) []func(impl.Shot) string) {
	t.Helper()
	all := &tallies{seen: map[string]int{}}
	t.Run("all", func(t *testing.T) {
		for part := range 8 {
			t.Run(strconv.Itoa(part), func(t *testing.T) {
				t.Parallel()
				d := &dice{state: first + uint64(part)}
				seen := map[string]int{}
				for range 130 {
					d.wantSafeRun(t, seen, anyBack, asks)
				}
				all.add(seen)
			})
		}
	})
	wantSeen(t, all.seen, 100, "moved", "came to another piece", "passed a signal", "stopped", "shows -1", "shows 1", "shows 2", "told 0", "told 1", "told 2", "told 3",
		"op 2 code 0", "op 4 code 0", "op 5 code 0", "op 6 code 0", "op 7 code 0", "op 8 code 0", "op 9 code 0", "op 10 code 0", "op 11 code 0", "op 11 code 9", "op 12 code 0", "op 13 code 0",
		"way 0 to 2", "way 2 to 0", "way 2 to 3", "way 2 to 4", "way 3 to 0", "way 4 to 0")
	wantSeen(t, all.seen, 20, "shows 3", "op 3 code 0")
}

// P8 and P10, and P9 and P11 beside them. A way is not taken back here while a train is underway to it: see below.
func TestNoTrainStrikesAnother(t *testing.T) {
	wantSafeRuns(t, 201, false, func(p safety) []func(impl.Shot) string {
		return []func(impl.Shot) string{p.struck, p.unseated, p.unseen, p.misled}
	})
}

// P9 and P11, whatever is taken back.
func TestWhereSomebodyIsNothingIsFree(t *testing.T) {
	wantSafeRuns(t, 301, true, func(p safety) []func(impl.Shot) string {
		return []func(impl.Shot) string{p.unseen, p.misled}
	})
}

// By the words of chapter 9 a train that has passed a signal may go on to the next one, and by those of chapter 5 a way is used when somebody is in its first section: between the two it can be taken back under its train, which P8 and P10 do not have. These are the ways in which that comes about; what the program does in them is what the chapters say.
func TestWaysTakenBackUnderTheirTrain(t *testing.T) {
	n := netOf(t, "a20 b5 c20 d20 e20", "end a0\nplain a1 b0\nplain b1 c0\nplain c1 d0\nplain d1 e0\nend e1")
	s := siteOf(t, n, "a8+ d15+ d5- e5-", "a8+/4 e5-/4")
	s.Hold = 2
	where := func(x impl.Shot) string {
		return trainText(n, x.Box.Trains[0]) + ", " + trainText(n, x.Box.Trains[1]) + " | " + frameText(x.Box.Frame) + " | " + struckText(x.Struck)
	}
	wantTicks(t, "it is slow, and the time is over before it is in the first section", s, where, []boxTick{
		{"ask 0, speed 0 3", "0 0", "a11+ 4, e5- 4 | #...# / c+ - - - | "},
		{"back 0", "0", "a14+ 4, e5- 4 | #...# / t+@1 - - - | "},
		{"", "", "a17+ 4, e5- 4 | #...# / - - - - | "},
		{"", "", "a20+ 4, e5- 4 | #...# / - - - - | "},
		{"ask 3, speed 0 60, speed 1 20", "0 0 0", "d15+ 4, d5- 4 | ...#. / - - - u+:x | "},
	})
	s.Net.Pieces[0].Len = 10
	wantTicks(t, "it is fast, and is never seen in the first section", s, where, []boxTick{
		{"ask 0, speed 0 20", "0 0", "c13+ 4, e5- 4 | ..#.# / s+ - - - | "},
		{"back 0, ask 3, speed 1 20", "0 0 0", "d13+ 4, d5- 4 | ...#. / - - - u+:x | 0 1"},
	})
	s = crossover(t)
	s.Hold = 1
	wantTicks(t, "a switch that was stuck turns under it", s, func(x impl.Shot) string {
		return trainText(s.Net, x.Box.Trains[0]) + " | " + numbersText(x.Box.Lies) + " | " + strconv.FormatBool(impl.Sits(s.Net, x.Box.Lies, x.Box.Trains[0]))
	}, []boxTick{
		{"ask 0, speed 0 1", "0 0", "a16+ 4 | 0 0 1 0 0 1 0 0 | true"},
		{"back 0", "0", "a17+ 4 | 0 0 1 0 0 1 0 0 | true"},
		{"stick 0, hand 0 2, speed 0 25", "0 0 0", "c2+ 4 b+ | 0 0 1 0 0 1 0 0 | true"},
		{"free 0, speed 0 0", "0 0", "c2+ 4 b+ | 0 0 0 0 0 1 0 0 | false"},
	})
}

// drawnLine is one of so many pieces with a train on the first one, looking along it, and a signal on each piece but the last.
func (d *dice) drawnLine(pieces int) impl.Site {
	s := impl.Site{Net: line(pieces), Hold: 1 + d.below(5)}
	shortest := 40
	for p := range s.Net.Pieces {
		s.Net.Pieces[p].Len = 4 + d.below(30)
		shortest = min(shortest, s.Net.Pieces[p].Len)
	}
	long := 1 + d.below(shortest-2)
	s.Longs = []int{long}
	for p := range pieces - 1 {
		s.Signals = append(s.Signals, post(p, p, s.Net.Pieces[p].Len-1-d.below(2), 1))
	}
	s.Fronts = []impl.Spot{{Piece: 0, At: long + d.below(s.Signals[0].At-long+1), Way: 1}}
	if d.below(2) == 0 {
		return turnedLine(s)
	}
	return s
}

// turnedLine is the same line, numbered from its other end to this one.
func turnedLine(s impl.Site) impl.Site {
	last := len(s.Net.Pieces) - 1
	slices.Reverse(s.Net.Pieces)
	for p := range s.Net.Pieces {
		s.Net.Pieces[p].Name = "p" + strconv.Itoa(p)
	}
	for i, x := range s.Signals {
		s.Signals[i].Piece = last - x.Piece
		s.Signals[i].At, s.Signals[i].Way = s.Net.Pieces[last-x.Piece].Len-x.At, -1
	}
	s.Fronts[0] = impl.Spot{Piece: last, At: s.Net.Pieces[last].Len - s.Fronts[0].At, Way: -1}
	return s
}

// slowest is the greatest speed at which a train is seen on each piece that it comes over.
func slowest(s impl.Site) int {
	speed := 200
	for _, x := range s.Net.Pieces {
		speed = min(speed, x.Len)
	}
	return speed
}

// wantLine asks for P12: each way is set when it is asked for, its train comes to its end, and it is let go of behind it. With ahead all ways are asked for at once.
func wantLine(t *testing.T, s impl.Site, speed int, ahead bool) {
	t.Helper()
	if got := len(impl.Ways(s)); got != len(s.Signals) {
		t.Fatalf("%v: there are %d ways", s, got)
	}
	first := []impl.Happen{{Op: impl.HSpeed, N: speed}}
	for k := range s.Signals {
		if ahead {
			first = append(first, impl.Happen{Op: impl.HAsk, Of: k})
		}
	}
	x := impl.Tick(s, impl.Start(s), first)
	for k := range s.Signals {
		if !ahead {
			x = wantUpTo(t, s, x.Box, impl.Spot{Piece: s.Signals[k].Piece, At: s.Signals[k].At, Way: s.Signals[k].Way})
			x = impl.Tick(s, x.Box, []impl.Happen{{Op: impl.HAsk, Of: k}})
		}
		if slices.Max(x.Codes) != 0 {
			t.Fatalf("%v: the codes of asking are %v", s, x.Codes)
		}
		if h := x.Box.Frame.Ways[k]; !ahead && (!h.Shown || h.State == impl.WIdle) {
			t.Fatalf("%v: way %d is asked for, and is %s", s, k, heldText(h))
		}
		x.Codes = []int{0}
	}
	last := impl.Ways(s)[len(s.Signals)-1].Steps[1]
	end := impl.Spot{Piece: last.Piece, Way: last.Way}
	if last.Way == 1 {
		end.At = s.Net.Pieces[last.Piece].Len
	}
	b := wantUpTo(t, s, x.Box, end).Box
	for p := range s.Net.Pieces {
		if told := b.Count.Sections[p].Told; (told != impl.Free) != (p == last.Piece) {
			t.Errorf("%v: behind the train piece %d is told %d", s, p, told)
		}
	}
	for k, h := range b.Frame.Ways {
		if (h.State != impl.WIdle) != (k == len(b.Frame.Ways)-1) {
			t.Errorf("%v: behind the train way %d is %s", s, k, heldText(h))
		}
	}
}

// wantUpTo lets time pass until the train is at a spot.
func wantUpTo(t *testing.T, s impl.Site, b impl.Box, to impl.Spot) impl.Shot {
	t.Helper()
	for range 300 {
		x := impl.Tick(s, b, nil)
		if x.Box.Trains[0].Front == to {
			return x
		}
		if p := (safety{site: s}); p.struck(x) != "" || p.unseated(x) != "" || p.unseen(x) != "" {
			t.Fatalf("%v: %s", s, shotText(s.Net, x))
		}
		b = x.Box
	}
	t.Fatalf("%v: the train does not come to %v:\n%s", s, to, boxText(s.Net, b))
	return impl.Shot{}
}

func TestALineFromTheFirstPieceToTheLast(t *testing.T) {
	for pieces := 2; pieces <= 6; pieces++ {
		t.Run(strconv.Itoa(pieces), func(t *testing.T) {
			t.Parallel()
			d := &dice{state: uint64(400 + pieces)}
			for i := range 60 {
				s := d.drawnLine(pieces)
				wantLine(t, s, []int{1, slowest(s), 1 + d.below(slowest(s))}[i%3], i%2 == 0)
			}
		})
	}
}

// Tick by tick, on three pieces: how each way is set, shown, used and let go of.
func TestALineTickByTick(t *testing.T) {
	s := steps(t, 3)
	wantTicks(t, "one after the other", s, func(x impl.Shot) string {
		return aspectsText(x.Shows) + " | " + trainText(s.Net, x.Box.Trains[0]) + " | " + frameText(x.Box.Frame)
	}, []boxTick{
		{"speed 0 10", "0", "00 | a15+ 5 | #.. / - -"},
		{"ask 0", "0", "10 | b5+ 5 | .#. / u+:x -"},
		{"", "", "00 | b15+ 5 | .#. / u+:x -"},
		{"ask 1", "0", "01 | c5+ 5 | ..# / - u+:x"},
		{"", "", "00 | c15+ 5 | ..# / - u+:x"},
		{"", "", "00 | c20+ 5 | ..# / - u+:x"},
	})
}

// P13: a way that is clear and is taken back with its train near is held for Hold ticks, and the train stops at its signal.
func TestAWayTakenBackIsHeld(t *testing.T) {
	for hold := 1; hold <= 20; hold++ {
		for _, at := range []int{5, 9, 14, 15} {
			for _, speed := range []int{0, 1, 3, 200} {
				s := steps(t, 3)
				s.Hold = hold
				s.Signals = append(s.Signals, post(7, 1, 5, -1))
				s.Fronts[0].At = at
				wantHeld(t, s, speed, impl.Spot{Piece: 0, At: 15, Way: 1})
			}
		}
	}
}

// wantHeld takes way 0 back in the tick in which the train begins to move. Way 2, which it excludes, can be set only when it is let go of.
func wantHeld(t *testing.T, s impl.Site, speed int, signal impl.Spot) {
	t.Helper()
	b := boxBehind(t, s, "ask 0")
	if b.Frame.Ways[0].State != impl.WClear || !impl.PlanOf(s).Bars[0][2] {
		t.Fatalf("the test's own way is not clear: %s", frameText(b.Frame))
	}
	list := []impl.Happen{{Op: impl.HBack}, {Op: impl.HSpeed, N: speed}}
	for tick := range s.Hold + 60 {
		x := impl.Tick(s, b, list)
		// Until Hold ticks have passed the way is held when something happens; behind each tick one less is left.
		held, want := b.Frame.Ways[0].State, impl.WTaking
		if tick == 0 {
			want = impl.WClear
		}
		if tick >= s.Hold {
			want = impl.WIdle
		}
		if held != want {
			t.Fatalf("Hold %d, tick %d: the way is %d", s.Hold, tick, held)
		}
		if left := x.Box.Frame.Ways[0].Timer; left != max(0, s.Hold-1-tick) {
			t.Fatalf("Hold %d, tick %d: the time left is %d", s.Hold, tick, left)
		}
		if asked := impl.Tick(s, b, []impl.Happen{{Op: impl.HAsk, Of: 2}}).Codes[0]; (asked == 3) != (tick < s.Hold) {
			t.Fatalf("Hold %d, tick %d: the code of another way is %d", s.Hold, tick, asked)
		}
		front := x.Box.Trains[0].Front
		if x.Shows[0] != impl.AStop || front.Piece != signal.Piece || front.At > signal.At || x.Box.Free[0] {
			t.Fatalf("Hold %d, tick %d: the signal shows %d, the train is at %v", s.Hold, tick, x.Shows[0], front)
		}
		if speed > 0 && tick > 20 && front != signal {
			t.Fatalf("Hold %d, tick %d: the train is at %v", s.Hold, tick, front)
		}
		b, list = x.Box, nil
	}
}

package tests

import (
	"slices"
	"strconv"
	"testing"

	"loop.example/signalbox/impl"
)

// Routes found unit by unit, from a list of what is yet to be gone, to hold those of the program against.

type slowSpot struct{ piece, at, way int }

type slowTrail struct {
	here  slowSpot
	route impl.Route
}

func (w slowTrail) copied() slowTrail {
	r := &w.route
	r.Steps, r.Lies, r.Crosses, r.Parts = slices.Clone(r.Steps), slices.Clone(r.Lies), slices.Clone(r.Crosses), slices.Clone(r.Parts)
	return w
}

type slowNet struct {
	net     impl.Net
	signals []impl.Signal
	over    int
	come    int
}

func (s *slowNet) signalAt(x slowSpot) int {
	return slices.IndexFunc(s.signals, func(g impl.Signal) bool { return slowSpot{g.Piece, g.At, g.Way} == x })
}

// jointAt is where an end stands.
func (s *slowNet) jointAt(e impl.End) (joint, place int) {
	for j := range s.net.Joints {
		if k := slices.Index(s.net.Joints[j].Ends, e); k >= 0 {
			return j, k
		}
	}
	panic("an end that stands nowhere")
}

// endAt is the end at which a spot is, not ok when it is at none to which it looks.
func (s *slowNet) endAt(x slowSpot) (impl.End, bool) {
	if x.way == 1 && x.at == s.net.Pieces[x.piece].Len {
		return end(x.piece, 1), true
	}
	return end(x.piece, 0), x.way == -1 && x.at == 0
}

func (s *slowNet) behind(e impl.End) slowSpot {
	if e.Side == 0 {
		return slowSpot{e.Piece, 0, 1}
	}
	return slowSpot{e.Piece, s.net.Pieces[e.Piece].Len, -1}
}

func grow(parts []impl.Part, x slowSpot) {
	last := &parts[len(parts)-1]
	last.From, last.To = min(last.From, x.at), max(last.To, x.at)
}

func (s *slowNet) enter(w slowTrail, x slowSpot) slowTrail {
	s.come++
	w = w.copied()
	w.here = x
	w.route.Steps = append(w.route.Steps, impl.Step{Piece: x.piece, Way: x.way})
	w.route.Parts = append(w.route.Parts, impl.Part{Piece: x.piece, From: x.at, To: x.at})
	return w
}

// exits of a joint by its ends, each with how a switch has to lie for it.
func exits(kind, place int) [][2]int {
	return map[int][][][2]int{
		impl.JEnd:    {{}},
		impl.JPlain:  {{{1, 0}}, {{0, 0}}},
		impl.JSwitch: {{{1, 1}, {2, 2}}, {{0, 1}}, {{0, 2}}},
		impl.JCross:  {{{1, 0}}, {{0, 0}}, {{3, 0}}, {{2, 0}}},
	}[kind][place]
}

func needed(lies []impl.Lie, joint int) int {
	for _, l := range lies {
		if l.Joint == joint {
			return l.Lie
		}
	}
	return 0
}

func (s *slowNet) from(signal int) []impl.Route {
	var out []impl.Route
	g := s.signals[signal]
	work := []slowTrail{s.enter(slowTrail{route: impl.Route{From: signal}}, slowSpot{g.Piece, g.At, g.Way})}
	for len(work) > 0 {
		w := work[len(work)-1]
		work = work[:len(work)-1]
		e, ended := s.endAt(w.here)
		for !ended {
			w.here.at += w.here.way
			grow(w.route.Parts, w.here)
			if w.route.To = s.signalAt(w.here); w.route.To >= 0 {
				break
			}
			e, ended = s.endAt(w.here)
		}
		if !ended {
			out = append(out, s.finished(w.route))
			continue
		}
		last := w.route.Steps[len(w.route.Steps)-1]
		if slices.Index(w.route.Steps, last) < len(w.route.Steps)-1 {
			continue
		}
		j, place := s.jointAt(e)
		if s.net.Joints[j].Kind == impl.JEnd {
			w.route.To = -1
			out = append(out, s.finished(w.route))
			continue
		}
		work = append(work, s.onward(w, j, place)...)
	}
	return out
}

// onward are the ways over a joint, the one to be gone first last.
func (s *slowNet) onward(w slowTrail, j, place int) []slowTrail {
	var out []slowTrail
	for _, x := range exits(s.net.Joints[j].Kind, place) {
		has := needed(w.route.Lies, j)
		if has != 0 && has != x[1] {
			continue
		}
		next := s.enter(w, s.behind(s.net.Joints[j].Ends[x[0]]))
		if s.net.Joints[j].Kind == impl.JCross {
			next.route.Crosses = append(next.route.Crosses, j)
		}
		if has == 0 && x[1] != 0 {
			next.route.Lies = append(next.route.Lies, impl.Lie{Joint: j, Lie: x[1]})
		}
		out = append(out, next)
	}
	slices.Reverse(out)
	return out
}

func (s *slowNet) finished(r impl.Route) impl.Route {
	if r.To >= 0 {
		g := s.signals[r.To]
		r.Over = s.overFrom(slowSpot{g.Piece, g.At, g.Way})
	}
	for _, l := range r.Lies {
		r.Flanks = append(r.Flanks, s.flanks(r.Lies, l)...)
	}
	return r
}

func (s *slowNet) overFrom(x slowSpot) []impl.Part {
	out := []impl.Part{{Piece: x.piece, From: x.at, To: x.at}}
	for range s.over {
		if e, ended := s.endAt(x); ended {
			j, place := s.jointAt(e)
			if s.net.Joints[j].Kind != impl.JPlain {
				break
			}
			x = s.behind(s.net.Joints[j].Ends[1-place])
			out = append(out, impl.Part{Piece: x.piece, From: x.at, To: x.at})
		}
		x.at += x.way
		grow(out, x)
	}
	return slices.DeleteFunc(out, func(p impl.Part) bool { return p.From == p.To })
}

func (s *slowNet) flanks(lies []impl.Lie, l impl.Lie) []impl.Flank {
	var out []impl.Flank
	looked := map[impl.End]int{}
	work := []impl.End{s.net.Joints[l.Joint].Ends[3-l.Lie]}
	for len(work) > 0 {
		e := work[len(work)-1]
		work = work[:len(work)-1]
		if looked[e]++; looked[e] > 1 {
			continue
		}
		x, g := s.behind(e), -1
		far, ended := impl.End{}, false
		for !ended && g < 0 {
			x.at += x.way
			g = s.signalAt(slowSpot{x.piece, x.at, -x.way})
			far, ended = s.endAt(x)
		}
		if g >= 0 {
			out = append(out, impl.Flank{At: l.Joint, Kind: impl.FSignal, Of: g})
			continue
		}
		j, place := s.jointAt(far)
		switch kind := s.net.Joints[j].Kind; {
		case kind == impl.JEnd:
			out = append(out, impl.Flank{At: l.Joint, Kind: impl.FBuffer, Of: j})
		case kind == impl.JSwitch && place > 0 && needed(lies, j) == place:
			out = append(out, impl.Flank{At: l.Joint, Kind: impl.FOpen, Of: j})
		case kind == impl.JSwitch && place > 0:
			out = append(out, impl.Flank{At: l.Joint, Kind: impl.FSwitch, Of: j, Lie: 3 - place})
		default:
			ways := exits(kind, place)
			for i := len(ways) - 1; i >= 0; i-- {
				work = append(work, s.net.Joints[j].Ends[ways[i][0]])
			}
		}
	}
	return out
}

func slowRoutes(n impl.Net, signals []impl.Signal, over int) []impl.Route {
	s := &slowNet{net: n, signals: signals, over: over}
	var out []impl.Route
	for i := range signals {
		out = append(out, s.from(i)...)
	}
	if len(out) > 300 || s.come > 20000 {
		return nil
	}
	return out
}

// rightNet joins the ends of some pieces as it falls.
func (d *dice) rightNet() impl.Net {
	n := impl.Net{}
	var ends []impl.End
	for p := range 1 + d.below(9) {
		n.Pieces = append(n.Pieces, piece("p"+strconv.Itoa(p), 1+d.below(4)))
		ends = append(ends, end(p, 0), end(p, 1))
	}
	for i := len(ends) - 1; i > 0; i-- {
		k := d.below(i + 1)
		ends[i], ends[k] = ends[k], ends[i]
	}
	for len(ends) > 0 {
		kind := []int{impl.JEnd, impl.JPlain, impl.JPlain, impl.JSwitch, impl.JSwitch, impl.JSwitch, impl.JCross}[d.below(7)]
		if kind > len(ends) {
			continue
		}
		j := impl.Joint{Kind: kind, Ends: slices.Clone(ends[:kind])}
		if kind > impl.JPlain {
			j.Name = "j" + strconv.Itoa(len(n.Joints))
		}
		n.Joints = append(n.Joints, j)
		ends = ends[kind:]
	}
	return n
}

func (d *dice) rightSignals(n impl.Net, most int) []impl.Signal {
	var out []impl.Signal
	for i := range d.below(most + 1) {
		p := d.below(len(n.Pieces))
		if n.Pieces[p].Len < 2 {
			continue
		}
		s := impl.Signal{Name: "s" + strconv.Itoa(i), Piece: p, At: 1 + d.below(n.Pieces[p].Len-1), Way: 2*d.below(2) - 1}
		if impl.SignalsOk(n, append(slices.Clone(out), s)) == (impl.Fault{}) {
			out = append(out, s)
		}
	}
	return out
}

func TestRoutesOfAnyNet(t *testing.T) {
	d := &dice{state: 3}
	seen := map[string]int{}
	for i := range 30000 {
		n := d.rightNet()
		signals := d.rightSignals(n, 1+i%8)
		over := d.below(14)
		if got := impl.SignalsOk(n, signals); got != (impl.Fault{}) {
			t.Fatalf("case %d: the test's own signals are not right: %v", i, got)
		}
		got, want := impl.Routes(n, signals, over), slowRoutes(n, signals, over)
		if routesText(n, got) != routesText(n, want) {
			t.Fatalf("case %d: Routes(%v, %v, %d) is\n%s\nnot\n%s", i, n, signals, over, routesText(n, got), routesText(n, want))
		}
		for _, r := range got {
			tally(seen, r)
		}
	}
	for _, what := range []string{"to a buffer", "to a signal", "to its own", "flank 1", "flank 2", "flank 3", "flank 4", "flanks of a switch", "crosses twice", "round"} {
		if seen[what] < 20 {
			t.Errorf("%s: seen %d times alone", what, seen[what])
		}
	}
}

// tally counts what was seen, so that the cases are known to be worth something.
func tally(seen map[string]int, r impl.Route) {
	switch {
	case r.To < 0:
		seen["to a buffer"]++
	case r.To == r.From:
		seen["to its own"]++
	default:
		seen["to a signal"]++
	}
	for i, f := range r.Flanks {
		seen["flank "+strconv.Itoa(f.Kind)]++
		if i > 0 && r.Flanks[i-1].At == f.At {
			seen["flanks of a switch"]++
		}
	}
	for i, c := range r.Crosses {
		if slices.Contains(r.Crosses[:i], c) {
			seen["crosses twice"]++
		}
	}
	for i, p := range r.Over {
		if slices.Contains(r.Over[:i], p) {
			seen["round"]++
		}
	}
}

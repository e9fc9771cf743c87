package tests

import (
	"reflect"
	"slices"
	"strconv"
	"testing"

	"loop.example/signalbox/impl"
)

// What chapter 8 says, sentence by sentence and with no care for time: the answers of the program are held against it.

func slowPairs(j impl.Joint) [][2]int {
	e := j.Ends
	switch j.Kind {
	case impl.JPlain:
		return [][2]int{{e[0].Piece, e[1].Piece}}
	case impl.JSwitch:
		return [][2]int{{e[0].Piece, e[1].Piece}, {e[0].Piece, e[2].Piece}}
	case impl.JCross:
		return [][2]int{{e[0].Piece, e[1].Piece}, {e[2].Piece, e[3].Piece}}
	}
	return nil
}

func slowSwitches(n impl.Net) []int {
	var out []int
	for j := range n.Joints {
		if n.Joints[j].Kind == impl.JSwitch {
			out = append(out, j)
		}
	}
	return out
}

func slowSiteTrack(s impl.Site) bool {
	if impl.SignalsOk(s.Net, s.Signals) != (impl.Fault{}) || len(s.Net.Pieces) > 40 || s.Hold < 1 || s.Hold > 300 {
		return false
	}
	pairs := 0
	for _, j := range s.Net.Joints {
		for _, p := range slowPairs(j) {
			if pairs++; p[0] == p[1] {
				return false
			}
		}
	}
	return pairs+len(s.Net.Pieces) <= 120 && len(slowSwitches(s.Net)) <= 40
}

func slowSiteLongs(s impl.Site) bool {
	if len(s.Longs) != len(s.Fronts) || len(s.Longs) > 6 {
		return false
	}
	for _, long := range s.Longs {
		if long < 1 || long > 1000 {
			return false
		}
		for _, p := range s.Net.Pieces {
			if long > p.Len {
				return false
			}
		}
	}
	return true
}

// slowTrains is nil for a train that cannot be placed so.
func slowTrains(s impl.Site) []*slowTrain {
	lies := make([]int, len(s.Net.Joints))
	for _, j := range slowSwitches(s.Net) {
		lies[j] = 1
	}
	var out []*slowTrain
	for i, front := range s.Fronts {
		p := slowPlace(s.Net, lies, front, s.Longs[i])
		if !p.Ok || front.Way == 1 && front.At == 0 || front.Way == -1 && front.At == s.Net.Pieces[front.Piece].Len {
			out = append(out, nil)
			continue
		}
		out = append(out, slowTrainOf(s.Net, p.Train))
	}
	return out
}

func slowSite(s impl.Site) int {
	if !slowSiteTrack(s) {
		return 1
	}
	if !slowSiteLongs(s) {
		return 2
	}
	trains := slowTrains(s)
	if slices.Contains(trains, nil) {
		return 3
	}
	for i, a := range trains {
		for _, b := range trains[:i] {
			if someTwo(a.cells, b.cells, func(c, d slowCell) bool { return c.piece == d.piece }) {
				return 4
			}
		}
	}
	if len(slowAllWays(s)) > 100 {
		return 5
	}
	return 0
}

// slowAllWays are the ways of a site whose signals are right.
func slowAllWays(s impl.Site) []impl.Route {
	var out []impl.Route
	for _, r := range slowRoutes(s.Net, s.Signals, 0) {
		if slowNoWay(s.Net, r) == "" {
			out = append(out, r)
		}
	}
	return out
}

func slowSiteWays(s impl.Site) []impl.Route {
	if slowSite(s) != 0 {
		return nil
	}
	return slowAllWays(s)
}

// slowNoWay is why a route is no way.
func slowNoWay(n impl.Net, r impl.Route) string {
	if len(r.Steps) < 2 || len(r.Steps) > 31 {
		return "steps"
	}
	var behind []int
	for _, step := range r.Steps[1:] {
		behind = append(behind, step.Piece)
	}
	if twice(behind) || slices.Contains(behind, r.Steps[0].Piece) {
		return "comes back"
	}
	for _, l := range r.Lies {
		if !slices.Contains(behind, n.Joints[l.Joint].Ends[0].Piece) {
			return "tip"
		}
	}
	others := map[int]int{}
	for i, f := range r.Flanks {
		if f.Kind != impl.FSwitch {
			continue
		}
		lie := needed(r.Lies, f.Of)
		if lie != 0 && lie != f.Lie {
			return "otherwise than Lies"
		}
		if lie == 0 {
			others[f.Of]++
		}
		for _, g := range r.Flanks[:i] {
			if g.Kind == impl.FSwitch && g.Of == f.Of && g.Lie != f.Lie {
				return "otherwise than a Flank"
			}
		}
	}
	if len(r.Lies) > 30 || len(others) > 30 {
		return "many"
	}
	return ""
}

func slowTurns(n impl.Net, lies []impl.Lie) []impl.Turn {
	var out []impl.Turn
	for _, l := range lies {
		number := 0
		for j := range l.Joint {
			if n.Joints[j].Kind == impl.JSwitch {
				number++
			}
		}
		out = append(out, impl.Turn{Switch: number, Lie: l.Lie})
	}
	return out
}

func slowWayOf(n impl.Net, r impl.Route) impl.Way {
	w := impl.Way{Near: []int{r.Steps[0].Piece}, Lies: slowTurns(n, r.Lies)}
	for _, step := range r.Steps[1:] {
		w.Sections = append(w.Sections, step.Piece)
	}
	var flanks []impl.Lie
	for _, f := range r.Flanks {
		if f.Kind == impl.FSwitch && needed(r.Lies, f.Of) == 0 && needed(flanks, f.Of) == 0 {
			flanks = append(flanks, lie(f.Of, f.Lie))
		}
	}
	w.Flanks = slowTurns(n, flanks)
	return w
}

// shareMore goes from place to place, and asks for two of them.
func shareMore(a, b impl.Part) bool {
	count := 0
	for at := a.From; at <= a.To; at++ {
		if a.Piece == b.Piece && at >= b.From && at <= b.To {
			count++
		}
	}
	return count > 1
}

// slowBar is why two ways exclude each other.
func slowBar(n impl.Net, a, b impl.Route) string {
	linked := a.To == b.From || b.To == a.From
	reasons := slowReasons(a, b)
	touch := reasons[1]
	if linked {
		reasons[1] = someTwo(a.Parts, b.Parts, shareMore)
	}
	switch {
	case inBoth(slowWayOf(n, a).Sections, slowWayOf(n, b).Sections):
		return "section"
	case slices.Contains(reasons[:], true) && linked:
		return "linked " + strconv.Itoa(slices.Index(reasons[:], true))
	case slices.Contains(reasons[:], true):
		return "exclude " + strconv.Itoa(slices.Index(reasons[:], true))
	case touch:
		return "free, linked"
	}
	return "free"
}

func slowPlanOf(s impl.Site) impl.Plan {
	if slowSite(s) != 0 {
		return impl.Plan{}
	}
	p := impl.Plan{Sections: len(s.Net.Pieces), Hold: s.Hold}
	for _, j := range slowSwitches(s.Net) {
		p.Switches = append(p.Switches, s.Net.Joints[j].Ends[0].Piece)
	}
	ways := slowSiteWays(s)
	for _, a := range ways {
		p.Ways = append(p.Ways, slowWayOf(s.Net, a))
		var row []bool
		for _, b := range ways {
			row = append(row, slowBar(s.Net, a, b)[:4] != "free")
		}
		p.Bars = append(p.Bars, row)
	}
	return p
}

func slowLayoutOf(s impl.Site) impl.Layout {
	if slowSite(s) != 0 {
		return impl.Layout{}
	}
	l := impl.Layout{Sections: len(s.Net.Pieces)}
	for _, j := range s.Net.Joints {
		for _, p := range slowPairs(j) {
			l.Counters = append(l.Counters, counter(p[0], p[1]))
		}
	}
	for p := range s.Net.Pieces {
		l.Counters = append(l.Counters, counter(-1, p))
	}
	return l
}

// wantSlowSite answers the code of the site.
func wantSlowSite(t *testing.T, s impl.Site) int {
	t.Helper()
	code := impl.SiteOk(s)
	if want := slowSite(s); code != want {
		t.Fatalf("SiteOk(%v) is %d, not %d", s, code, want)
	}
	if got, want := routesText(s.Net, impl.Ways(s)), routesText(s.Net, slowSiteWays(s)); got != want {
		t.Fatalf("Ways(%v) is\n%s\nnot\n%s", s, got, want)
	}
	plan, lay := impl.PlanOf(s), impl.LayoutOf(s)
	if want := slowPlanOf(s); planText(plan) != planText(want) {
		t.Fatalf("PlanOf(%v) is\n%s\nnot\n%s", s, planText(plan), planText(want))
	}
	if want := slowLayoutOf(s); layoutText(lay) != layoutText(want) {
		t.Fatalf("LayoutOf(%v) is %s, not %s", s, layoutText(lay), layoutText(want))
	}
	if code == 0 && (impl.PlanOk(plan) != (impl.Fault{}) || impl.LayoutOk(lay) != 0) {
		t.Fatalf("%v: PlanOk is %v, LayoutOk %d", s, impl.PlanOk(plan), impl.LayoutOk(lay))
	}
	return code
}

// tallySite counts what was seen of a right site.
func tallySite(seen map[string]int, s impl.Site) {
	for _, r := range slowRoutes(s.Net, s.Signals, 0) {
		why := slowNoWay(s.Net, r)
		seen["no way: "+why]++
		if why != "" {
			continue
		}
		flanks := map[int]int{}
		for _, f := range r.Flanks {
			if f.Kind != impl.FSwitch {
				continue
			}
			if flanks[f.Of]++; needed(r.Lies, f.Of) != 0 {
				seen["a Flank as Lies"]++
			} else if flanks[f.Of] == 2 {
				seen["a Flank as one before"]++
			}
		}
	}
	ways := slowAllWays(s)
	for i, a := range ways {
		for _, b := range ways[:i] {
			seen["bar: "+slowBar(s.Net, a, b)]++
		}
	}
}

// wantSeen asks that the cases were worth something.
func wantSeen(t *testing.T, seen map[string]int, least int, what ...string) {
	t.Helper()
	for _, w := range what {
		if seen[w] < least {
			t.Errorf("%s: seen %d times alone", w, seen[w])
		}
	}
}

// smallSignals are all signals that a net of short pieces has room for.
func smallSignals(n impl.Net) []impl.Signal {
	var out []impl.Signal
	for p := range n.Pieces {
		for at := 1; at < n.Pieces[p].Len; at++ {
			out = append(out, post(len(out), p, at, 1), post(len(out)+1, p, at, -1))
		}
	}
	return out
}

func chosen[T any](list []T, set int) []T {
	var out []T
	for i, x := range list {
		if set>>i&1 == 1 {
			out = append(out, x)
		}
	}
	return out
}

func TestAllSmallSites(t *testing.T) {
	seen := map[string]int{}
	for _, n := range smallNets([2]int{2, 2}) {
		all := smallSignals(n)
		for set := range 1 << len(all) {
			s := impl.Site{Net: n, Signals: chosen(all, set), Hold: 1 + set}
			if seen["code "+strconv.Itoa(wantSlowSite(t, s))]++; slowSite(s) == 0 {
				tallySite(seen, s)
			}
		}
		var spots []impl.Spot
		for _, a := range allSpots(n) {
			for long := range 4 {
				s := impl.Site{Net: n, Signals: all, Fronts: []impl.Spot{a}, Longs: []int{long}, Hold: 1}
				seen["one: "+strconv.Itoa(wantSlowSite(t, s))]++
			}
			spots = append(spots, a)
			for _, b := range spots {
				s := impl.Site{Net: n, Signals: all, Fronts: []impl.Spot{a, b}, Longs: []int{1, 2}, Hold: 300}
				seen["two: "+strconv.Itoa(wantSlowSite(t, s))]++
			}
		}
	}
	wantSeen(t, seen, 100, "code 0", "code 1", "one: 0", "one: 1", "one: 2", "one: 3", "two: 0", "two: 1", "two: 3", "two: 4",
		"no way: ", "no way: steps", "no way: comes back", "no way: tip", "bar: section", "bar: exclude 1", "bar: free, linked")
}

// someSite is one with so many pieces and no pair of one piece, if that can be helped.
func (d *dice) someSite(pieces, signals int) impl.Site {
	var n impl.Net
	for range 30 {
		n = d.rightNet()
		if len(n.Pieces) >= pieces && slowSiteTrack(onSite(n)) {
			break
		}
	}
	s := impl.Site{Net: n, Signals: d.rightSignals(n, signals), Hold: 1 + d.below(300)}
	shortest := n.Pieces[0].Len
	for _, p := range n.Pieces {
		shortest = min(shortest, p.Len)
	}
	for range d.below(4) {
		front, long := d.someSpot(n), 1+d.below(shortest)
		if d.below(8) == 0 {
			long = shortest + 1
		}
		s.Fronts, s.Longs = append(s.Fronts, front), append(s.Longs, long)
	}
	return s
}

func TestSitesOfAnyNet(t *testing.T) {
	for part := range 4 {
		t.Run(strconv.Itoa(part), func(t *testing.T) {
			t.Parallel()
			d := &dice{state: uint64(81 + part)}
			seen := map[string]int{}
			for i := range 8000 {
				s := d.someSite(4+i%6, 2+i%12)
				code := wantSlowSite(t, s)
				if seen["code "+strconv.Itoa(code)]++; code == 0 {
					tallySite(seen, s)
				}
			}
			wantSeen(t, seen, 60, "code 0", "code 1", "code 2", "code 3", "code 4",
				"no way: ", "no way: steps", "no way: comes back", "no way: tip", "no way: otherwise than a Flank", "a Flank as Lies",
				"bar: section", "bar: exclude 1", "bar: exclude 2", "bar: exclude 3", "bar: linked 2", "bar: linked 3", "bar: free", "bar: free, linked")
			wantSeen(t, seen, 5, "a Flank as one before")
		})
	}
}

// anySite is one with some of it thrown about.
func (d *dice) anySite() impl.Site {
	s := copySite(d.someSite(3, 6))
	for range d.below(3) {
		switch d.below(10) {
		case 0:
			s.Hold = d.number()
		case 1:
			s.Longs = s.Longs[:d.below(len(s.Longs)+1)]
		case 2:
			s.Longs = append(s.Longs, d.number())
		case 3:
			s.Fronts = append(s.Fronts, impl.Spot{Piece: d.number(), At: d.number(), Way: d.number()})
		case 4:
			if len(s.Fronts) > 0 {
				s.Fronts[d.below(len(s.Fronts))] = d.someSpot(s.Net)
			}
		case 5:
			if len(s.Longs) > 0 {
				s.Longs[d.below(len(s.Longs))] = d.number()
			}
		case 6:
			s.Net.Pieces[d.below(len(s.Net.Pieces))].Len += d.below(3)
		case 7:
			s.Net.Joints[d.below(len(s.Net.Joints))].Kind = d.number()
		case 8:
			if len(s.Signals) > 0 {
				s.Signals[d.below(len(s.Signals))].At = d.number()
			}
		case 9:
			s.Fronts, s.Longs = nil, nil
		}
	}
	return copySite(s)
}

func TestSitesAnyArgument(t *testing.T) {
	d := &dice{state: 85}
	seen := map[string]int{}
	for i := range 8000 {
		s := d.anySite()
		what := "case " + strconv.Itoa(i)
		before := wholeSite(copySite(s))
		seen["code "+strconv.Itoa(wantSlowSite(t, s))]++
		ways, plan, lay := impl.Ways(s), impl.PlanOf(s), impl.LayoutOf(s)
		wantApart(t, what+", Ways", ways, s)
		wantApart(t, what+", PlanOf", plan, s)
		wantApart(t, what+", LayoutOf", lay, s)
		wantApart(t, what+", all of it", []any{ways, plan, lay}, s, impl.Ways(s), impl.PlanOf(s), impl.LayoutOf(s))
		for _, r := range ways {
			spoil(r.Steps, impl.Step{Piece: 99})
			spoil(r.Lies, lie(99, 99))
			spoil(r.Flanks, impl.Flank{At: 99})
		}
		for i, w := range plan.Ways {
			spoil(w.Sections, 99)
			spoil(w.Lies, impl.Turn{Switch: 99})
			spoil(w.Flanks, impl.Turn{Switch: 99})
			spoil(plan.Bars[i], false)
		}
		spoil(plan.Switches, 99)
		spoil(lay.Counters, counter(99, 99))
		if !reflect.DeepEqual(wholeSite(s), before) {
			t.Fatalf("%s: it was written into an argument", what)
		}
		wantSlowSite(t, s)
	}
	wantSeen(t, seen, 100, "code 0", "code 1", "code 2", "code 3", "code 4")
}

// Numbers that are none at all, in every place.
func TestSitesWildNumbers(t *testing.T) {
	d := &dice{state: 86}
	seen := map[string]int{}
	for range 60000 {
		s := impl.Site{Net: d.net(), Hold: d.number()}
		if d.below(2) == 0 {
			s.Signals = d.signals()
		}
		for range d.below(3) {
			x := d.wildTrain()
			if d.below(2) == 0 {
				x.Front, x.Long = impl.Spot{Piece: d.below(3), At: d.below(110), Way: 2*d.below(2) - 1}, 1+d.below(20)
			}
			s.Fronts = append(s.Fronts, x.Front)
			if d.below(4) > 0 {
				s.Longs = append(s.Longs, x.Long)
			}
		}
		code := impl.SiteOk(s)
		seen["code "+strconv.Itoa(code)]++
		// Unit by unit over a great piece takes too long.
		if !slices.ContainsFunc(s.Net.Pieces, func(p impl.Piece) bool { return p.Len > 1000 }) || code == 1 {
			wantSlowSite(t, s)
		} else {
			wantSite(t, "a great piece", s, code)
		}
	}
	wantSeen(t, seen, 100, "code 0", "code 1", "code 2", "code 3")
}

package tests

import (
	"slices"
	"strconv"
	"strings"
	"testing"

	"loop.example/signalbox/impl"
)

// Sites and plans written as texts, the sites that tests share, and what copies them.

// siteOf takes signals ("a50+") and trains ("a40+/20": a front and a length).
func siteOf(t *testing.T, n impl.Net, signals, trains string) impl.Site {
	t.Helper()
	s := impl.Site{Net: n, Signals: signalsOf(t, n, signals), Hold: 5}
	for _, word := range strings.Fields(trains) {
		front, long, _ := strings.Cut(word, "/")
		s.Fronts = append(s.Fronts, spotAt(t, n, front))
		s.Longs = append(s.Longs, number(t, long))
	}
	return s
}

func turnsText(turns []impl.Turn) string {
	var out []string
	for _, x := range turns {
		out = append(out, strconv.Itoa(x.Switch)+":"+strconv.Itoa(x.Lie))
	}
	return strings.Join(out, " ")
}

func numbersText(list []int) string {
	var out []string
	for _, x := range list {
		out = append(out, strconv.Itoa(x))
	}
	return strings.Join(out, " ")
}

// planText tells every field, with a row of bars behind each way.
func planText(p impl.Plan) string {
	out := strconv.Itoa(p.Sections) + " sections, switches " + numbersText(p.Switches) + ", hold " + strconv.Itoa(p.Hold)
	for _, w := range p.Ways {
		out += "\n" + strings.Join([]string{numbersText(w.Sections), turnsText(w.Lies), turnsText(w.Flanks), numbersText(w.Over), numbersText(w.Near)}, " | ")
	}
	for _, row := range p.Bars {
		out += "\n" + flagsText(row, ".", "x")
	}
	return out
}

func layoutText(l impl.Layout) string {
	out := strconv.Itoa(l.Sections) + ":"
	for _, c := range l.Counters {
		out += " " + strconv.Itoa(c.From) + ">" + strconv.Itoa(c.To)
	}
	return out
}

// wantSite asks, beside the code, for what all other calls owe to a right site, and to one that is not.
func wantSite(t *testing.T, what string, s impl.Site, want int) {
	t.Helper()
	if got := impl.SiteOk(s); got != want {
		t.Errorf("%s: SiteOk is %d, not %d", what, got, want)
	}
	ways, plan, lay := impl.Ways(s), impl.PlanOf(s), impl.LayoutOf(s)
	if want != 0 {
		if len(ways) != 0 || planText(plan) != planText(impl.Plan{}) || layoutText(lay) != layoutText(impl.Layout{}) {
			t.Errorf("%s: the site is not right, and has %d ways, the plan %v, the layout %v", what, len(ways), plan, lay)
		}
		return
	}
	if got := impl.PlanOk(plan); got != (impl.Fault{}) {
		t.Errorf("%s: the plan is not right: %v\n%s", what, got, planText(plan))
	}
	if got := impl.LayoutOk(lay); got != 0 {
		t.Errorf("%s: the layout is not right: %d\n%s", what, got, layoutText(lay))
	}
	if len(plan.Ways) != len(ways) || plan.Sections != len(s.Net.Pieces) || plan.Hold != s.Hold || lay.Sections != len(s.Net.Pieces) {
		t.Errorf("%s: %d ways, the layout %s, the plan\n%s", what, len(ways), layoutText(lay), planText(plan))
	}
}

// wantWays takes the routes one a line.
func wantWays(t *testing.T, what string, s impl.Site, want string) {
	t.Helper()
	wantSite(t, what, s, 0)
	var lines []string
	for _, line := range strings.Split(want, "\n") {
		if line = strings.TrimSpace(line); line != "" {
			lines = append(lines, line)
		}
	}
	if got := routesText(s.Net, impl.Ways(s)); got != strings.Join(lines, "\n") {
		t.Errorf("%s: Ways is\n%s\nnot\n%s", what, got, strings.Join(lines, "\n"))
	}
}

// wantWaysOf takes the numbers of the routes that are ways.
func wantWaysOf(t *testing.T, what string, s impl.Site, want ...int) {
	t.Helper()
	wantSite(t, what, s, 0)
	routes := impl.Routes(s.Net, s.Signals, 0)
	var ways []impl.Route
	for _, i := range want {
		ways = append(ways, routes[i])
	}
	if got := routesText(s.Net, impl.Ways(s)); got != routesText(s.Net, ways) {
		t.Errorf("%s: Ways is\n%s\nnot\n%s", what, got, routesText(s.Net, ways))
	}
}

// wantPlanOf takes the plan but for the bars of each way against itself, which all have.
func wantPlanOf(t *testing.T, what string, s impl.Site, want impl.Plan) {
	t.Helper()
	wantSite(t, what, s, 0)
	for i := range want.Ways {
		bar(&want, i, i, true)
	}
	if got := planText(impl.PlanOf(s)); got != planText(want) {
		t.Errorf("%s: PlanOf is\n%s\nnot\n%s", what, got, planText(want))
	}
}

// wantBars takes the ways that exclude each other, beside each one itself.
func wantBars(t *testing.T, what string, s impl.Site, bars string) {
	t.Helper()
	wantSite(t, what, s, 0)
	p := impl.PlanOf(s)
	want := planOf(t, 0, "", 0, bars, slices.Repeat([]string{"||||"}, len(p.Ways))...)
	for i := range want.Bars {
		bar(&want, i, i, true)
		if got := flagsText(p.Bars[i], ".", "x"); got != flagsText(want.Bars[i], ".", "x") {
			t.Errorf("%s: row %d of the bars is %s, not %s", what, i, got, flagsText(want.Bars[i], ".", "x"))
		}
	}
}

func wantLayoutOf(t *testing.T, what string, s impl.Site, want string) {
	t.Helper()
	wantSite(t, what, s, 0)
	if got := layoutText(impl.LayoutOf(s)); got != want {
		t.Errorf("%s: LayoutOf is %s, not %s", what, got, want)
	}
}

// passing is a line a, b or c, d, with a piece z ahead of it: one train on z, a signal on z, and one each on b and c.
func passing(t *testing.T) impl.Site {
	t.Helper()
	n := netOf(t, "a100 b200 c250 d50 z80", `
		plain z1 a0
		switch a1 b0 c0
		switch d0 b1 c1
		end d1
		end z0`)
	return siteOf(t, n, "z70+ b190+ c240+", "z50+/20")
}

// crowded is a yard with signals on three pieces, and with a train at either end of it.
func crowded() impl.Site {
	return impl.Site{
		Net: yard(), Signals: posts(), Hold: 9,
		Fronts: []impl.Spot{{Piece: 0, At: 60, Way: 1}, {Piece: 9, At: 40, Way: -1}},
		Longs:  []int{50, 60},
	}
}

// station has in tracks on the one side of a throat and out tracks on the other, a signal on each of the first: in times out ways.
func station(in, out int) impl.Site {
	b := &builder{}
	throat := b.piece()
	s := impl.Site{Hold: 5}
	for i, p := range b.spread(end(throat, 0), in) {
		s.Signals = append(s.Signals, post(i, p, 50, -1))
	}
	b.spread(end(throat, 1), out)
	s.Net = b.net
	return s
}

// fullStation has MaxWays ways, and a line beside it on which one more signal makes one way more.
func fullStation() impl.Site {
	s := station(10, 10)
	b := &builder{net: s.Net}
	b.chain(b.begin(), 1)
	s.Net = b.net
	s.Fronts = []impl.Spot{{Piece: 37, At: 60, Way: 1}, {Piece: 38, At: 60, Way: 1}}
	s.Longs = []int{40, 30}
	return s
}

func copySite(s impl.Site) impl.Site {
	return impl.Site{
		Net:     copyOf(s.Net),
		Signals: roomy(s.Signals, impl.Signal{Name: "spare"}),
		Fronts:  roomy(s.Fronts, impl.Spot{Piece: 7, At: 7, Way: 7}),
		Longs:   roomy(s.Longs, 7),
		Hold:    s.Hold,
	}
}

// wholeSite is the site with what lies behind the ends of its lists.
func wholeSite(s impl.Site) impl.Site {
	s.Net = whole(s.Net)
	s.Signals, s.Fronts, s.Longs = s.Signals[:cap(s.Signals)], s.Fronts[:cap(s.Fronts)], s.Longs[:cap(s.Longs)]
	return s
}

package tests

import (
	"reflect"
	"slices"
	"strconv"
	"strings"
	"testing"

	"loop.example/signalbox/impl"
)

func tableText(table [][]int) string {
	var rows []string
	for _, row := range table {
		var places []string
		for _, x := range row {
			places = append(places, strconv.Itoa(x))
		}
		rows = append(rows, strings.Join(places, " "))
	}
	return strings.Join(rows, "\n")
}

// wantTable takes the rows one a line.
func wantTable(t *testing.T, what string, routes []impl.Route, want string) {
	t.Helper()
	var rows []string
	for _, row := range strings.Split(want, "\n") {
		if row = strings.TrimSpace(row); row != "" {
			rows = append(rows, row)
		}
	}
	if got := tableText(impl.Table(routes)); got != strings.Join(rows, "\n") {
		t.Errorf("%s: Table is\n%s\nnot\n%s", what, got, strings.Join(rows, "\n"))
	}
}

func TestTableOfFew(t *testing.T) {
	if got := impl.Table(nil); len(got) != 0 {
		t.Errorf("of no routes: %v", got)
	}
	if got := impl.Table([]impl.Route{}); len(got) != 0 {
		t.Errorf("of an empty list: %v", got)
	}
	wantTable(t, "one that is none", make([]impl.Route, 1), "0")
	wantTable(t, "one", []impl.Route{along(part(1, 0, 9))}, "1")
	wantTable(t, "two", []impl.Route{across(1), along(part(1, 0, 9))}, "2 0\n0 1")
	wantTable(t, "the same twice", []impl.Route{across(1), across(1)}, "2 2\n2 2")
	wantTable(t, "each reason", []impl.Route{
		joined(along(part(1, 4, 3)), over(part(2, 0, 5)), lying(lie(7, 1))),
		joined(along(part(1, 0, 9)), across(5)),
		joined(across(5), flanked(turned(7, 2))),
		along(part(2, 5, 6)),
		lying(lie(7, 1), lie(7, 2)),
	}, `
		0 1 3 4 3
		1 1 2 0 0
		3 2 2 0 3
		4 0 0 1 0
		3 0 3 0 3`)
}

func TestTableOfRoutes(t *testing.T) {
	n := siding(t)
	wantTable(t, "flanks that need a switch in two ways", impl.Routes(n, signalsOf(t, n, "a50+ c50+ t50+"), 0), `
		1 1 3 0 1 0
		1 1 0 1 1 1
		3 0 1 1 0 1
		0 1 1 1 1 1
		1 1 0 1 1 1
		0 1 1 1 1 1`)
	n = netOf(t, "a100 b100 c100 d100", `
		end a0
		end c0
		cross a1 b0 c1 d0
		end b1
		end d1`)
	wantTable(t, "over a crossing", impl.Routes(n, signalsOf(t, n, "a50+ c50+ b50+ d50-"), 20), `
		1 2 1 2
		2 1 0 1
		1 0 1 0
		2 1 0 1`)
	n = netOf(t, "a100 b100", "end a0\nplain a1 b0\nend b1")
	signals := signalsOf(t, n, "a20+ a40+ a60+ b50+ b60-")
	wantTable(t, "what is Over ends at the next but one", impl.Routes(n, signals, 20), `
		1 1 4 0 1
		1 1 1 0 1
		4 1 1 1 1
		0 0 1 1 1
		1 1 1 1 1`)
	wantTable(t, "ends by one ahead of it", impl.Routes(n, signals, 19), `
		1 1 0 0 1
		1 1 1 0 1
		0 1 1 1 1
		0 0 1 1 1
		1 1 1 1 1`)
	wantTable(t, "comes just to the signal of b", impl.Routes(n, signals, 110), `
		1 1 4 4 1
		1 1 1 4 1
		4 1 1 1 1
		4 4 1 1 1
		1 1 1 1 1`)
	wantTable(t, "misses the signal of b by one", impl.Routes(n, signals, 109), `
		1 1 4 0 1
		1 1 1 4 1
		4 1 1 1 1
		0 4 1 1 1
		1 1 1 1 1`)
}

// What is Over comes up to a switch over which the other route goes: they meet at the joint, on no piece.
func TestTableAtAJoint(t *testing.T) {
	n := netOf(t, "a100 b100 t100", `
		switch t0 a1 b1
		end a0
		end b0
		end t1`)
	signals := signalsOf(t, n, "a20+ a80+ b50+")
	for _, over := range []int{0, 20, 1000} {
		wantTable(t, "over "+strconv.Itoa(over), impl.Routes(n, signals, over), `
			1 1 0
			1 1 1
			0 1 1`)
	}
	n = netOf(t, "a100", "plain a0 a1")
	wantTable(t, "a ring", impl.Routes(n, signalsOf(t, n, "a20+ a80+ a50-"), 0), `
		1 1 1
		1 1 1
		1 1 1`)
	rings := netOf(t, "a10 b10", "plain a0 a1\nplain b0 b1")
	wantTable(t, "two rings", impl.Routes(rings, signalsOf(t, rings, "a2+ b2+ a2-"), 1000), `
		1 0 1
		0 1 0
		1 0 1`)
}

func TestTableHowMany(t *testing.T) {
	var routes []impl.Route
	for i := range 301 {
		routes = append(routes, joined(along(part(i, 0, 9)), over(part(i+1, 0, 9))))
	}
	for _, count := range []int{299, 300} {
		got := impl.Table(routes[:count])
		if len(got) != count {
			t.Fatalf("%d routes have %d rows", count, len(got))
		}
		for i, row := range got {
			if len(row) != count {
				t.Fatalf("row %d of %d has %d places", i, count, len(row))
			}
			for k, x := range row {
				want := map[int]int{0: 1, 1: 4, -1: 4}[k-i]
				if x != want {
					t.Fatalf("at (%d, %d) is %d, not %d", i, k, x, want)
				}
			}
		}
	}
	if got := impl.Table(routes); len(got) != 0 {
		t.Errorf("301 routes have %d rows", len(got))
	}
	if got := impl.Table(make([]impl.Route, 301)); len(got) != 0 {
		t.Errorf("301 empty routes have %d rows", len(got))
	}
	if got := impl.Table(make([]impl.Route, 100000)); len(got) != 0 {
		t.Errorf("100000 routes have %d rows", len(got))
	}
}

func TestTableOfManyRoutes(t *testing.T) {
	b := &builder{}
	throat := b.piece()
	var signals []impl.Signal
	for i, p := range b.spread(end(throat, 0), 10) {
		signals = append(signals, post(i, p, 50, -1))
	}
	b.spread(end(throat, 1), 30)
	wantSlowTable(t, "10 to 30", wantCount(t, "10 to 30", b.net, signals, 0, 300))
	wantSlowTable(t, "256 long ones", wantCount(t, "8 diamonds", eight(), []impl.Signal{post(0, 0, 50, 1)}, 0, 256)[200:])
	n := line(impl.MaxPieces)
	signals = nil
	for i := range impl.MaxSignals {
		signals = append(signals, post(i, i, 50, 1-i%2*2))
	}
	wantSlowTable(t, "MaxSignals", wantCount(t, "MaxSignals", n, signals, 700, 60))
	n = ring()
	n.Pieces[0].Len = 2
	wantTable(t, "50001 parts behind a signal", wantCount(t, "the shortest ring", n, []impl.Signal{post(0, 0, 1, 1), post(1, 0, 1, -1)}, 100000, 2), "1 1\n1 1")
}

// slowNeeds counts what stands there.
func slowNeeds(r impl.Route) []impl.Lie {
	var out []impl.Lie
	count := map[impl.Lie]int{}
	for _, l := range r.Lies {
		out = append(out, l)
		count[l]++
	}
	for _, f := range r.Flanks {
		l := lie(f.Of, f.Lie)
		if f.Kind != impl.FSwitch {
			continue
		}
		if count[l]++; count[l] == 1 {
			out = append(out, l)
		}
	}
	return out
}

func someTwo[A, B any](list []A, other []B, is func(A, B) bool) bool {
	for _, a := range list {
		for _, b := range other {
			if is(a, b) {
				return true
			}
		}
	}
	return false
}

// share goes from place to place where the numbers allow it.
func share(a, b impl.Part) bool {
	if a.Piece != b.Piece {
		return false
	}
	near := func(p impl.Part) bool { return p.From >= -1000 && p.To <= 1000 && p.From <= p.To }
	if !near(a) || !near(b) {
		return !(a.From > b.To) && !(b.From > a.To)
	}
	for at := a.From; at <= a.To; at++ {
		if at >= b.From && at <= b.To {
			return true
		}
	}
	return false
}

// slowReasons tells of each reason whether it holds.
func slowReasons(a, b impl.Route) [5]bool {
	return [5]bool{
		1: someTwo(a.Parts, b.Parts, share),
		2: someTwo(a.Crosses, b.Crosses, func(c, d int) bool { return c == d }),
		3: someTwo(slowNeeds(a), slowNeeds(b), func(l, m impl.Lie) bool { return l.Joint == m.Joint && l != m }),
		4: someTwo(a.Over, b.Parts, share) || someTwo(a.Parts, b.Over, share),
	}
}

func slowExclude(a, b impl.Route) int {
	reasons := slowReasons(a, b)
	return max(0, slices.Index(reasons[:], true))
}

func wantSlowTable(t *testing.T, what string, routes []impl.Route) {
	t.Helper()
	got := impl.Table(routes)
	if len(got) != len(routes) {
		t.Fatalf("%s: %d routes have %d rows", what, len(routes), len(got))
	}
	for i, row := range got {
		if len(row) != len(routes) {
			t.Fatalf("%s: row %d of %d has %d places", what, i, len(routes), len(row))
		}
		for k, x := range row {
			if want := slowExclude(routes[i], routes[k]); x != want {
				t.Fatalf("%s: at (%d, %d) is %d, not %d:\n%v\n%v", what, i, k, x, want, routes[i], routes[k])
			}
		}
	}
}

func TestTableOfAnyNet(t *testing.T) {
	d := &dice{state: 5}
	seen := [5]int{}
	for i := range 6000 {
		n := d.rightNet()
		routes := impl.Routes(n, d.rightSignals(n, 2+i%9), d.below(9))
		wantSlowTable(t, "case "+strconv.Itoa(i), routes)
		for _, row := range impl.Table(routes) {
			for _, x := range row {
				seen[x]++
			}
		}
		for _, r := range routes {
			if got, want := impl.Needs(r), slowNeeds(r); liesText(got) != liesText(want) {
				t.Fatalf("case %d: Needs is %v, not %v", i, got, want)
			}
		}
	}
	for code, count := range seen {
		if count < 100 {
			t.Errorf("%d was seen %d times alone", code, count)
		}
	}
}

// place is a small number, or now and then any.
func (d *dice) place(most int) int {
	if d.below(12) == 0 {
		return d.number()
	}
	return d.below(most)
}

func (d *dice) parts() []impl.Part {
	var out []impl.Part
	for range d.below(3) {
		from := d.place(60)
		out = append(out, part(d.place(9), from, from+d.place(12)-2))
	}
	return out
}

// wild is a route as it falls, which Routes would hardly answer.
func (d *dice) wild() impl.Route {
	r := impl.Route{From: d.number(), To: d.number(), Parts: d.parts(), Over: d.parts()}
	for range d.below(2) {
		r.Steps = append(r.Steps, impl.Step{Piece: d.number(), Way: d.number()})
	}
	for range d.below(3) {
		r.Crosses = append(r.Crosses, d.place(20))
	}
	for range d.below(3) {
		r.Lies = append(r.Lies, lie(d.place(9), d.place(3)))
	}
	for range d.below(4) {
		r.Flanks = append(r.Flanks, impl.Flank{At: d.place(9), Kind: d.place(6), Of: d.place(9), Lie: d.place(3)})
	}
	return r
}

// roomyRoute copies a route and leaves room behind its lists.
func roomyRoute(r impl.Route) impl.Route {
	r.Steps = roomy(r.Steps, impl.Step{Piece: -9})
	r.Lies = roomy(r.Lies, lie(-9, -9))
	r.Crosses = roomy(r.Crosses, -9)
	r.Parts = roomy(r.Parts, part(-9, -9, -9))
	r.Over = roomy(r.Over, part(-9, -9, -9))
	r.Flanks = roomy(r.Flanks, turned(-9, -9))
	return r
}

// wholeRoute is a route with what lies behind the ends of its lists.
func wholeRoute(r impl.Route) impl.Route {
	r.Steps, r.Lies, r.Crosses = r.Steps[:cap(r.Steps)], r.Lies[:cap(r.Lies)], r.Crosses[:cap(r.Crosses)]
	r.Parts, r.Over, r.Flanks = r.Parts[:cap(r.Parts)], r.Over[:cap(r.Over)], r.Flanks[:cap(r.Flanks)]
	return r
}

func wholeRoutes(routes []impl.Route) []impl.Route {
	var out []impl.Route
	for _, r := range routes[:cap(routes)] {
		out = append(out, wholeRoute(r))
	}
	return out
}

// roomyRoutes copies routes, and leaves room behind each list.
func roomyRoutes(routes []impl.Route) []impl.Route {
	out := roomy(routes, impl.Route{From: -9})
	for i := range out {
		out[i] = roomyRoute(out[i])
	}
	return out
}

func TestTableAnyArgument(t *testing.T) {
	d := &dice{state: 6}
	seen := [5]int{}
	several := 0
	for i := range 8000 {
		var routes []impl.Route
		for range d.below(6) {
			routes = append(routes, d.wild())
		}
		routes = roomyRoutes(routes)
		before := wholeRoutes(roomyRoutes(routes))
		what := "case " + strconv.Itoa(i)
		wantSlowTable(t, what, routes)
		first := impl.Table(routes)
		wantApart(t, what, first, routes)
		if again := impl.Table(routes); !reflect.DeepEqual(again, first) {
			t.Fatalf("%s: Table is %v, then %v", what, first, again)
		}
		for _, a := range routes {
			needs := impl.Needs(a)
			wantApart(t, what, needs, a)
			wantNeeds(t, what, a, slowNeeds(a)...)
			wantNeeds(t, what+", again", a, needs...)
			for _, b := range routes {
				wantExclude(t, what, a, b, slowExclude(a, b))
				seen[slowExclude(a, b)]++
				reasons := slowReasons(a, b)
				if slices.Contains(reasons[slowExclude(a, b)+1:], true) {
					several++
				}
			}
		}
		if !reflect.DeepEqual(wholeRoutes(routes), before) {
			t.Fatalf("%s: an argument was written into", what)
		}
	}
	for code, count := range seen {
		if count < 1000 {
			t.Errorf("%d was seen %d times alone", code, count)
		}
	}
	if several < 1000 {
		t.Errorf("several at once were seen %d times alone", several)
	}
}

// What is done with an answer changes no argument, no other row, and no later answer.
func TestTableIsNewMemory(t *testing.T) {
	routes := []impl.Route{lying(lie(7, 1), lie(3, 2)), joined(lying(lie(7, 2)), flanked(turned(3, 2), turned(4, 1))), along(part(1, 0, 9))}
	before := wholeRoutes(roomyRoutes(routes))
	want := "0 3 0\n3 0 0\n0 0 1"
	got := impl.Table(routes)
	spoil(got[0][:cap(got[0])], -9)
	_ = append(got[1], 5, 6, 7)
	if tableText(got[1:]) != "3 0 0\n0 0 1" {
		t.Errorf("rows share memory: %v", got)
	}
	spoil(got[:cap(got)], nil)
	wantTable(t, "again", routes, want)
	for _, r := range routes {
		needs := impl.Needs(r)
		spoil(needs[:cap(needs)], lie(-9, -9))
	}
	wantNeeds(t, "again", routes[1], lie(7, 2), lie(3, 2), lie(4, 1))
	if !reflect.DeepEqual(wholeRoutes(roomyRoutes(routes)), before) {
		t.Error("an argument was written into")
	}
}

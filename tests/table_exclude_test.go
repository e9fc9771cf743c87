package tests

import (
	"testing"

	"loop.example/signalbox/impl"
)

// Routes that have one thing alone.

func over(parts ...impl.Part) impl.Route { return impl.Route{Over: parts} }

func along(parts ...impl.Part) impl.Route { return impl.Route{Parts: parts} }

func across(crosses ...int) impl.Route { return impl.Route{Crosses: crosses} }

func lying(lies ...impl.Lie) impl.Route { return impl.Route{Lies: lies} }

func flanked(flanks ...impl.Flank) impl.Route { return impl.Route{Flanks: flanks} }

// joined is one route that has what all these have.
func joined(routes ...impl.Route) impl.Route {
	out := impl.Route{}
	for _, r := range routes {
		out.Steps = append(out.Steps, r.Steps...)
		out.Lies = append(out.Lies, r.Lies...)
		out.Crosses = append(out.Crosses, r.Crosses...)
		out.Parts = append(out.Parts, r.Parts...)
		out.Over = append(out.Over, r.Over...)
		out.Flanks = append(out.Flanks, r.Flanks...)
	}
	return out
}

// wantExclude asks from either side.
func wantExclude(t *testing.T, what string, a, b impl.Route, want int) {
	t.Helper()
	if got := impl.Exclude(a, b); got != want {
		t.Errorf("%s: Exclude is %d, not %d", what, got, want)
	}
	if got := impl.Exclude(b, a); got != want {
		t.Errorf("%s, from the other side: Exclude is %d, not %d", what, got, want)
	}
}

// pairsOfParts are parts that have a place in common, and such that have none.
var pairsOfParts = []struct {
	what string
	a, b impl.Part
	meet bool
}{
	{"the same", part(3, 10, 20), part(3, 10, 20), true},
	{"they overlap", part(3, 10, 20), part(3, 15, 30), true},
	{"the one within the other", part(3, 10, 20), part(3, 12, 14), true},
	{"within, at the beginning", part(3, 10, 20), part(3, 10, 14), true},
	{"within, at the end", part(3, 10, 20), part(3, 14, 20), true},
	{"they meet in one place", part(3, 10, 20), part(3, 20, 30), true},
	{"they meet in one place, of length 0", part(3, 10, 20), part(3, 20, 20), true},
	{"of length 0 at the beginning", part(3, 10, 20), part(3, 10, 10), true},
	{"both of length 0", part(3, 20, 20), part(3, 20, 20), true},
	{"by one", part(3, 10, 21), part(3, 20, 30), true},
	{"they miss by one", part(3, 10, 19), part(3, 20, 30), false},
	{"of length 0, they miss by one", part(3, 19, 19), part(3, 20, 20), false},
	{"far apart", part(3, 10, 20), part(3, 1000, 2000), false},
	{"at the end 0 of a piece", part(3, 0, 5), part(3, 0, 0), true},
	{"at the end 1 of a piece", part(3, 60, 100), part(3, 100, 100), true},
	{"at both ends", part(3, 0, 5), part(3, 95, 100), false},
	{"two pieces, the same numbers", part(3, 10, 20), part(4, 10, 20), false},
	{"two pieces that meet at a joint", part(3, 60, 100), part(4, 0, 50), false},
	{"two pieces that meet at a joint, end 0 of both", part(3, 0, 100), part(4, 0, 50), false},
	{"piece 0", part(0, 10, 20), part(0, 20, 30), true},
	{"the last piece", part(99, 10, 20), part(99, 20, 30), true},
	{"no such piece", part(-1, 10, 20), part(-1, 20, 30), true},
	{"pieces 1 and -1", part(1, 10, 20), part(-1, 10, 20), false},
	{"far below and far above", part(farBelow, 10, 20), part(farAbove, 10, 20), false},
	{"far below", part(farBelow, 10, 20), part(farBelow, 20, 30), true},
	{"far above", part(farAbove, 10, 20), part(farAbove, 20, 30), true},
	{"ahead of 0", part(3, -20, -10), part(3, -10, 0), true},
	{"ahead of 0, they miss by one", part(3, -20, -11), part(3, -10, 0), false},
	{"From above To, within the other", part(3, 20, 10), part(3, 0, 100), true},
	{"From above To, at the places", part(3, 20, 10), part(3, 10, 20), true},
	{"From above To, not from From on", part(3, 20, 10), part(3, 10, 19), false},
	{"From above To, not up to To", part(3, 20, 10), part(3, 11, 20), false},
	{"From above To, both", part(3, 20, 10), part(3, 20, 10), false},
	{"From above To by one, both", part(3, 11, 10), part(3, 11, 10), false},
	{"From above To, both, apart", part(3, 20, 10), part(3, 9, 5), false},
	{"all that there is", part(3, farBelow, farAbove), part(3, farBelow, farAbove), true},
	{"all that there is, and one place", part(3, farBelow, farAbove), part(3, 0, 0), true},
	{"the whole range, From above To", part(3, farAbove, farBelow), part(3, farBelow, farAbove), true},
	{"the whole range, From above To, and less", part(3, farAbove, farBelow), part(3, farBelow, farAbove-1), false},
	{"the whole range, From above To, both", part(3, farAbove, farBelow), part(3, farAbove, farBelow), false},
	{"at the beginning of the range", part(3, farBelow, farBelow), part(3, farBelow, 0), true},
	{"at the end of the range", part(3, farAbove, farAbove), part(3, 0, farAbove), true},
	{"at its two ends", part(3, farBelow, farBelow), part(3, farAbove, farAbove), false},
	{"its two halves", part(3, farBelow, -1), part(3, 0, farAbove), false},
	{"its two halves, with a place in common", part(3, farBelow, 0), part(3, 0, farAbove), true},
}

func TestExcludeByPlace(t *testing.T) {
	wantExclude(t, "no routes", impl.Route{}, impl.Route{}, 0)
	for _, c := range pairsOfParts {
		want := 0
		if c.meet {
			want = 1
		}
		wantExclude(t, c.what, along(c.a), along(c.b), want)
		wantExclude(t, c.what+", first of others", along(c.a, part(8, 0, 9)), along(c.b, part(7, 0, 9)), want)
		wantExclude(t, c.what+", behind others", along(part(8, 0, 9), part(6, 0, 9), c.a), along(part(7, 0, 9), c.b), want)
		wantExclude(t, c.what+", first and last", along(c.a, part(8, 0, 9), part(6, 0, 9)), along(part(7, 0, 9), part(5, 0, 9), c.b), want)
		wantExclude(t, c.what+", and the other none", along(c.a, c.b), impl.Route{}, 0)
	}
	wantExclude(t, "one route's own parts do not count", along(part(1, 0, 9), part(1, 5, 9)), along(part(2, 0, 9), part(2, 5, 9)), 0)
	wantExclude(t, "the piece of the one, the places of another", along(part(1, 0, 9), part(2, 50, 60)), along(part(1, 50, 60), part(2, 0, 9)), 0)
	wantExclude(t, "steps alone are no places", impl.Route{Steps: []impl.Step{{Piece: 1, Way: 1}}}, impl.Route{Steps: []impl.Step{{Piece: 1, Way: 1}}}, 0)
	wantExclude(t, "the same signals", impl.Route{From: 1, To: 2}, impl.Route{From: 1, To: 2}, 0)
	wantExclude(t, "the one ends where the other begins", impl.Route{From: 1, To: 2}, impl.Route{From: 2, To: 1}, 0)
}

func TestExcludeByCrossing(t *testing.T) {
	wantExclude(t, "one crossing", across(3), across(3), 2)
	wantExclude(t, "two crossings", across(3), across(4), 0)
	wantExclude(t, "none of one", across(3), across(), 0)
	wantExclude(t, "crossing 0", across(0), across(0), 2)
	wantExclude(t, "first and last", across(3, 4, 5), across(6, 7, 3), 2)
	wantExclude(t, "last and first", across(5, 4, 3), across(3, 6, 7), 2)
	wantExclude(t, "in the midst", across(5, 3, 8), across(9, 3, 7), 2)
	wantExclude(t, "several, none in common", across(5, 3, 8), across(9, 4, 7), 0)
	wantExclude(t, "one twice by the one alone", across(3, 3), across(4), 0)
	wantExclude(t, "one twice by both", across(3, 3), across(3, 3), 2)
	wantExclude(t, "any numbers", across(farBelow, -1), across(farAbove, -1), 2)
	wantExclude(t, "far below", across(farBelow), across(farBelow), 2)
	wantExclude(t, "far above", across(farAbove), across(farAbove), 2)
	wantExclude(t, "the two ends of the range", across(farBelow), across(farAbove), 0)
	wantExclude(t, "a crossing and a switch of its number", across(3), lying(lie(3, 1)), 0)
	wantExclude(t, "a crossing and a piece of its number", across(3), along(part(3, 0, 9)), 0)
}

func TestExcludeBySwitch(t *testing.T) {
	left, right := lie(5, 1), lie(5, 2)
	asks := []struct {
		what        string
		left, right impl.Route
	}{
		{"Lies", lying(left), lying(right)},
		{"Lies behind others", lying(lie(1, 1), lie(2, 1), left), lying(lie(3, 1), right)},
		{"Lies ahead of others", lying(left, lie(1, 1), lie(2, 1)), lying(right, lie(3, 1))},
		{"Flanks", flanked(turned(5, 1)), flanked(turned(5, 2))},
		{"Flanks behind others", flanked(turned(1, 1), turned(5, 1)), flanked(turned(3, 1), impl.Flank{At: 5, Kind: impl.FBuffer, Of: 9}, turned(5, 2))},
		{"Flanks ahead of others", flanked(turned(5, 1), turned(1, 1)), flanked(turned(5, 2), turned(3, 1))},
		{"Flanks behind Lies", joined(lying(lie(1, 1)), flanked(turned(5, 1))), joined(lying(lie(3, 1)), flanked(turned(5, 2)))},
	}
	for _, a := range asks {
		for _, b := range asks {
			what := a.what + " and " + b.what
			wantExclude(t, what+", left and right", a.left, b.right, 3)
			wantExclude(t, what+", right and left", a.right, b.left, 3)
			wantExclude(t, what+", left both", a.left, b.left, 0)
			wantExclude(t, what+", right both", a.right, b.right, 0)
		}
		wantExclude(t, a.what+" and nothing", a.left, impl.Route{}, 0)
		wantExclude(t, a.what+" and another switch", a.left, lying(lie(6, 2)), 0)
		for _, kind := range []int{0, impl.FBuffer, impl.FSignal, impl.FOpen, 5, -3} {
			wantExclude(t, a.what+" and a flank that is no switch", a.left, flanked(impl.Flank{At: 5, Kind: kind, Of: 5, Lie: 2}), 0)
		}
		wantExclude(t, a.what+" and a flank at this switch", a.left, flanked(impl.Flank{At: 5, Kind: impl.FSwitch, Of: 6, Lie: 2}), 0)
	}
}

func TestExcludeBySwitchInNoWays(t *testing.T) {
	wantExclude(t, "switch 0", lying(lie(0, 1)), lying(lie(0, 2)), 3)
	wantExclude(t, "two switches", lying(lie(4, 1)), lying(lie(5, 2)), 0)
	wantExclude(t, "two switches, exchanged", lying(lie(4, 1), lie(5, 2)), lying(lie(4, 1), lie(5, 2)), 0)
	wantExclude(t, "in no way", lying(lie(5, 0)), lying(lie(5, 1)), 3)
	wantExclude(t, "in no way both", lying(lie(5, 0)), lying(lie(5, 0)), 0)
	wantExclude(t, "in ways that there are not", lying(lie(5, 3)), lying(lie(5, -3)), 3)
	wantExclude(t, "in the same one that there is not", lying(lie(5, 7)), lying(lie(5, 7)), 0)
	wantExclude(t, "at the ends of the range", lying(lie(farBelow, farAbove)), lying(lie(farBelow, farBelow)), 3)
	wantExclude(t, "at the ends of the range, alike", lying(lie(farBelow, farAbove)), lying(lie(farBelow, farAbove)), 0)
	wantExclude(t, "switches at the ends of the range", lying(lie(farBelow, 1)), lying(lie(farAbove, 2)), 0)
	wantExclude(t, "in two ways by the one, in one by the other", lying(lie(5, 1), lie(5, 2)), lying(lie(5, 1)), 3)
	wantExclude(t, "in two ways by the one, in the second by the other", lying(lie(5, 1), lie(5, 2)), lying(lie(5, 2)), 3)
	wantExclude(t, "in two ways by the one alone", lying(lie(5, 1), lie(5, 2)), lying(lie(6, 1)), 0)
	wantExclude(t, "in two ways, by Lies and a flank", joined(lying(lie(5, 1)), flanked(turned(5, 2))), lying(lie(5, 1)), 3)
	wantExclude(t, "a switch and a piece of its number", lying(lie(5, 1)), along(part(5, 2, 2)), 0)
}

func TestExcludeByOver(t *testing.T) {
	for _, c := range pairsOfParts {
		want := 0
		if c.meet {
			want = 4
		}
		wantExclude(t, c.what, over(c.a), along(c.b), want)
		wantExclude(t, c.what+", the other way round", along(c.a), over(c.b), want)
		wantExclude(t, c.what+", Over of both alone", over(c.a), over(c.b), 0)
		wantExclude(t, c.what+", of one route alone", joined(over(c.a), along(c.b)), along(part(7, 0, 9)), 0)
		wantExclude(t, c.what+", behind others", over(part(8, 0, 9), part(6, 0, 9), c.a), along(part(7, 0, 9), c.b), want)
		wantExclude(t, c.what+", first and last", over(c.a, part(8, 0, 9)), along(part(7, 0, 9), part(5, 0, 9), c.b), want)
		wantExclude(t, c.what+", with parts elsewhere", joined(along(part(8, 0, 9)), over(c.a)), joined(along(c.b), over(part(8, 50, 60))), want)
		wantExclude(t, c.what+", both Over, with parts elsewhere", joined(along(part(8, 0, 9)), over(c.a)), joined(along(part(7, 0, 9)), over(c.b)), 0)
	}
	wantExclude(t, "both ways at once", joined(along(part(1, 0, 9)), over(part(2, 0, 9))), joined(along(part(2, 5, 9)), over(part(1, 5, 9))), 4)
	wantExclude(t, "Over and steps", over(part(1, 0, 9)), impl.Route{Steps: []impl.Step{{Piece: 1, Way: 1}}}, 0)
}

// reasons has for each of the four two routes that exclude each other by it alone.
func reasons() [5][2]impl.Route {
	return [5][2]impl.Route{
		0: {joined(along(part(9, 0, 4)), across(9), lying(lie(9, 1)), over(part(9, 8, 9))), joined(along(part(9, 5, 7)), across(8), lying(lie(9, 1)), over(part(9, 8, 9)))},
		1: {along(part(1, 0, 5)), along(part(1, 5, 9))},
		2: {across(2), across(2)},
		3: {lying(lie(3, 1)), flanked(turned(3, 2))},
		4: {over(part(4, 0, 5)), along(part(4, 5, 9))},
	}
}

func TestExcludeTheFirst(t *testing.T) {
	for set := range 1 << 5 {
		a, b, want := impl.Route{}, impl.Route{}, 0
		for code := 4; code >= 0; code-- {
			if set>>code&1 == 0 {
				continue
			}
			a, b = joined(a, reasons()[code][0]), joined(b, reasons()[code][1])
			if code > 0 {
				want = code
			}
		}
		what := ""
		for code := range 5 {
			if set>>code&1 == 1 {
				what += "reason " + string(rune('0'+code)) + " "
			}
		}
		wantExclude(t, what, a, b, want)
	}
}

func TestExcludeItself(t *testing.T) {
	for _, c := range []struct {
		what string
		r    impl.Route
		want int
	}{
		{"no route", impl.Route{}, 0},
		{"parts", along(part(1, 0, 9)), 1},
		{"a part of length 0", along(part(1, 3, 3)), 1},
		{"From above To", along(part(1, 4, 3)), 0},
		{"From above To, and one that holds it", along(part(1, 4, 3), part(1, 0, 9)), 1},
		{"From above To, and another such", along(part(1, 8, 7), part(1, 4, 3)), 0},
		{"crossings", across(1, 2), 2},
		{"From above To, and crossings", joined(along(part(1, 4, 3)), across(1, 2)), 2},
		{"Lies", lying(lie(1, 1), lie(2, 2)), 0},
		{"a switch in two ways", lying(lie(1, 1), lie(1, 2)), 3},
		{"a switch in two ways, by Lies and a flank", joined(lying(lie(1, 1)), flanked(turned(1, 2))), 3},
		{"what is Over alone", over(part(1, 0, 9)), 0},
		{"what is Over, and From above To on it", joined(along(part(1, 4, 3)), over(part(1, 0, 9))), 4},
		{"all of it", joined(along(part(1, 0, 9)), across(1), lying(lie(1, 1), lie(1, 2)), over(part(1, 0, 9))), 1},
	} {
		wantExclude(t, c.what, c.r, c.r, c.want)
	}
}

// Numbers that are alike in some of their bits are not the same number.
func TestExcludeNumbersAlike(t *testing.T) {
	for _, first := range []int{0, 1, 63, 64, 100, -1, -64} {
		for bit := range 64 {
			other := first ^ 1<<bit
			wantExclude(t, "pieces", along(part(first, 0, 9)), along(part(other, 0, 9)), 0)
			wantExclude(t, "pieces, Over", over(part(first, 0, 9)), along(part(other, 0, 9)), 0)
			wantExclude(t, "crossings", across(first), across(other), 0)
			wantExclude(t, "switches", lying(lie(first, 1)), lying(lie(other, 2)), 0)
			wantExclude(t, "switches in flanks", flanked(turned(first, 1)), flanked(turned(other, 2)), 0)
			wantExclude(t, "pieces, both", along(part(first, 0, 9), part(other, 0, 9)), along(part(other, 9, 9)), 1)
			wantExclude(t, "crossings, both", across(first, other), across(other), 2)
			wantExclude(t, "switches, both", lying(lie(first, 1), lie(other, 1)), lying(lie(first, 1), lie(other, 2)), 3)
			wantExclude(t, "pieces, Over, both", over(part(first, 0, 9), part(other, 0, 9)), along(part(other, 9, 9)), 4)
			wantExclude(t, "ways", lying(lie(5, first)), lying(lie(5, other)), 3)
		}
	}
}

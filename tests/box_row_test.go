package tests

import (
	"slices"
	"strconv"
	"strings"
	"testing"

	"loop.example/signalbox/impl"
)

// wantNoBox asks that none of the calls takes the box for one of the site.
func wantNoBox(t *testing.T, what string, s impl.Site, b impl.Box) {
	t.Helper()
	if got := wholeRowText(impl.RowOf(s, b)); got != wholeRowText(impl.Row{}) {
		t.Errorf("%s: RowOf is %s", what, got)
	}
	for _, list := range [][]impl.Happen{nil, listOf(t, "speed 0 1")} {
		if got := shotText(s.Net, impl.Tick(s, b, list)); got != shotText(s.Net, impl.Shot{}) {
			t.Errorf("%s: Tick is\n%s", what, got)
		}
	}
	if got := impl.Shown(s, b); got != "" {
		t.Errorf("%s: Shown is\n%s", what, got)
	}
}

// wantBox asks that all of the calls take it for one.
func wantBox(t *testing.T, what string, s impl.Site, b impl.Box) {
	t.Helper()
	if len(impl.RowOf(s, b).Next) != len(s.Signals) || !impl.Tick(s, b, nil).Ok || impl.Shown(s, b) == "" {
		t.Errorf("%s: it is no box of the site:\n%s", what, boxText(s.Net, b))
	}
	w := slowWorldOf(s)
	wantSlowBox(t, w, s, b)
	wantSlowTick(t, w, s, b, nil)
}

// busy is the crossover with a way that is used, one that is clear, and things that do not work.
func busy(t *testing.T) (impl.Site, impl.Box) {
	t.Helper()
	s := crossover(t)
	shots := impl.Drive(s, [][]impl.Happen{listOf(t, "ask 0, ask 3, speed 0 3, speed 1 2, lamp 1 2, stick 1, dead 12"), listOf(t, "speed 0 4")})
	b := shots[1].Box
	if got := frameText(b.Frame); got != "##...## 11 11 / u+:x. - - c+ - -" {
		t.Fatalf("the test's own frame is %s", got)
	}
	return s, b
}

type boxSpoil struct {
	what string
	do   func(b *impl.Box)
}

// boxSpoils are what makes a busy box none of its site, each by itself.
func boxSpoils() []boxSpoil {
	return []boxSpoil{
		{"not Ok", func(b *impl.Box) { b.Ok = false }},
		{"a count that is not Ok", func(b *impl.Box) { b.Count.Ok = false }},
		{"a section too few", func(b *impl.Box) { b.Count.Sections = b.Count.Sections[:6] }},
		{"a section too many", func(b *impl.Box) { b.Count.Sections = append(b.Count.Sections, impl.Section{}) }},
		{"a counter too few", func(b *impl.Box) { b.Count.Dead = b.Count.Dead[:12] }},
		{"a counter too many", func(b *impl.Box) { b.Count.Dead = append(b.Count.Dead, false) }},
		{"another thing told", func(b *impl.Box) { b.Count.Sections[2].Told = impl.Occupied }},
		{"a Count below 0 that is not Lost", func(b *impl.Box) { b.Count.Sections[0].Count = -1 }},
		{"a Count too great", func(b *impl.Box) { b.Count.Sections[0].Count = 1000001 }},
		{"no Last", func(b *impl.Box) { b.Count.Sections[2].Last = 2 }},
		{"a frame that is not Ok", func(b *impl.Box) { b.Frame.Ok = false }},
		{"an Occ too few", func(b *impl.Box) { b.Frame.Occ = b.Frame.Occ[:6] }},
		{"an Occ too many", func(b *impl.Box) { b.Frame.Occ = append(b.Frame.Occ, false) }},
		{"a Point too few", func(b *impl.Box) { b.Frame.Points = b.Frame.Points[:1] }},
		{"a Point too many", func(b *impl.Box) { b.Frame.Points = append(b.Frame.Points, impl.Point{Want: 1, Lies: 1}) }},
		{"a way too few", func(b *impl.Box) { b.Frame.Ways = b.Frame.Ways[:5] }},
		{"a way too many", func(b *impl.Box) { b.Frame.Ways = append(b.Frame.Ways, impl.Held{Been: []bool{false}}) }},
		{"wanted 0", func(b *impl.Box) { b.Frame.Points[0].Want = 0 }},
		{"known to lie 3", func(b *impl.Box) { b.Frame.Points[0].Lies = 3 }},
		{"a way that does not settle", func(b *impl.Box) { b.Frame.Ways[3].State = impl.WSet }},
		{"a way that is clear and not Shown", func(b *impl.Box) { b.Frame.Ways[3].Shown = false }},
		{"a Timer", func(b *impl.Box) { b.Frame.Ways[3].Timer = 1 }},
		{"two ways that exclude each other", func(b *impl.Box) {
			b.Frame.Ways[2] = impl.Held{State: impl.WSet, Been: make([]bool, 2)}
		}},
		{"a Lie too few", func(b *impl.Box) { b.Lies = b.Lies[:7] }},
		{"a Lie too many", func(b *impl.Box) { b.Lies = append(b.Lies, 0) }},
		{"a switch that lies 3", func(b *impl.Box) { b.Lies[2] = 3 }},
		{"a switch that lies below 0", func(b *impl.Box) { b.Lies[2] = -1 }},
		{"a plain joint that lies 1", func(b *impl.Box) { b.Lies[1] = 1 }},
		{"a Stuck too few", func(b *impl.Box) { b.Stuck = b.Stuck[:1] }},
		{"a Stuck too many", func(b *impl.Box) { b.Stuck = append(b.Stuck, false) }},
		{"lamps of a signal too few", func(b *impl.Box) { b.Works = b.Works[:3] }},
		{"lamps of a signal too many", func(b *impl.Box) { b.Works = append(b.Works, lampsWithout("")) }},
		{"three lamps", func(b *impl.Box) { b.Works[3] = b.Works[3][:3] }},
		{"five lamps", func(b *impl.Box) { b.Works[0] = append(b.Works[0], true) }},
		{"no lamps", func(b *impl.Box) { b.Works[2] = nil }},
		{"a train too few", func(b *impl.Box) { b.Trains = b.Trains[:1] }},
		{"a train too many", func(b *impl.Box) { b.Trains = append(b.Trains, b.Trains[0]) }},
		{"a Free too few", func(b *impl.Box) { b.Free = b.Free[:1] }},
		{"a Free too many", func(b *impl.Box) { b.Free = append(b.Free, false) }},
		{"a speed too few", func(b *impl.Box) { b.Speeds = b.Speeds[:1] }},
		{"a speed too many", func(b *impl.Box) { b.Speeds = append(b.Speeds, 0) }},
		{"no train", func(b *impl.Box) { b.Trains[0] = impl.Train{} }},
		{"a front past its piece", func(b *impl.Box) { b.Trains[1].Front.At = 21 }},
		{"a front at no piece", func(b *impl.Box) { b.Trains[1].Front.Piece = 7 }},
		{"a train with no Back", func(b *impl.Box) { b.Trains[0].Back = nil }},
		{"a train with too much Back", func(b *impl.Box) { b.Trains[1].Back = []impl.Step{{Piece: 6, Way: 1}} }},
		{"a train that is longer than it was", func(b *impl.Box) { b.Trains[1].Long = 5 }},
		{"a train that is shorter than it was", func(b *impl.Box) { b.Trains[1].Long = 3 }},
		{"a speed below 0", func(b *impl.Box) { b.Speeds[1] = -1 }},
		{"a speed past 200", func(b *impl.Box) { b.Speeds[0] = 201 }},
		{"a speed far below 0", func(b *impl.Box) { b.Speeds[0] = farBelow }},
		{"a speed far past 200", func(b *impl.Box) { b.Speeds[1] = farAbove }},
	}
}

func TestBoxesThatAreNone(t *testing.T) {
	s, b := busy(t)
	wantBox(t, "busy", s, b)
	for _, spoil := range boxSpoils() {
		bad := copyBox(b)
		spoil.do(&bad)
		wantNoBox(t, spoil.what, s, bad)
		if slowWorldOf(s).isBox(bad) {
			t.Errorf("%s: the test's own box is one", spoil.what)
		}
	}
	wantNoBox(t, "no box", s, impl.Box{})
	wantNoBox(t, "no site", impl.Site{}, b)
	wantNoBox(t, "neither", impl.Site{}, impl.Box{})
	wantNoBox(t, "the box of another site", s, impl.Start(passing(t)))
	other := copySite(s)
	other.Longs[1]--
	wantNoBox(t, "a site with another train", other, b)
	other.Longs[1]++
	wantBox(t, "the same site", other, b)
	for _, spoil := range []func(s *impl.Site){
		func(s *impl.Site) { s.Hold = 0 },
		func(s *impl.Site) { s.Longs = nil },
		func(s *impl.Site) { s.Fronts[0].At = 3 },
		func(s *impl.Site) { s.Fronts[1] = s.Fronts[0] },
	} {
		wrong := copySite(s)
		spoil(&wrong)
		wantNoBox(t, "a site that is not right", wrong, b)
	}
}

// What does not make a box none of its site, however odd it is.
func TestBoxesThatAreOddAndRight(t *testing.T) {
	s, b := busy(t)
	for _, odd := range []boxSpoil{
		{"speeds 0 and 200", func(b *impl.Box) { b.Speeds = []int{0, 200} }},
		{"all stuck", func(b *impl.Box) { b.Stuck = []bool{true, true} }},
		{"all dark", func(b *impl.Box) {
			b.Works = [][]bool{make([]bool, 4), make([]bool, 4), make([]bool, 4), make([]bool, 4)}
		}},
		{"all may go on", func(b *impl.Box) { b.Free = []bool{true, true} }},
		{"switches that lie otherwise than they are known to", func(b *impl.Box) { b.Lies[2], b.Lies[5] = 2, 0 }},
		{"a train that does not sit", func(b *impl.Box) { b.Trains[0] = trainOf(t, s.Net, "x1+ 4 b+") }},
		{"a front where its piece begins", func(b *impl.Box) { b.Trains[0] = trainOf(t, s.Net, "b0+ 4 a+") }},
		{"two trains in one place", func(b *impl.Box) { b.Trains[1] = b.Trains[0] }},
		{"a train on a section that is told free", func(b *impl.Box) { b.Trains[1] = trainOf(t, s.Net, "d9+ 4") }},
		{"a frame that was told otherwise", func(b *impl.Box) { b.Frame.Occ[5] = false }},
		{"a Count as great as there is", func(b *impl.Box) { b.Count.Sections[5].Count = 1000000 }},
	} {
		other := copyBox(b)
		odd.do(&other)
		wantBox(t, odd.what, s, other)
	}
}

func wantRowOf(t *testing.T, what string, s impl.Site, b impl.Box, want string) {
	t.Helper()
	row := impl.RowOf(s, b)
	if got := wholeRowText(row); got != want {
		t.Errorf("%s: RowOf is\n%s\nnot\n%s", what, got, want)
	}
	if impl.RowOk(row) != 0 {
		t.Errorf("%s: the row is not right", what)
	}
	wantSlowBox(t, slowWorldOf(s), s, b)
}

// boxBehind is the box behind ticks, each with its list.
func boxBehind(t *testing.T, s impl.Site, lists ...string) impl.Box {
	t.Helper()
	b := impl.Start(s)
	for _, list := range lists {
		x := impl.Tick(s, b, listOf(t, list))
		if !x.Ok {
			t.Fatalf("%s: the tick is not Ok", list)
		}
		b = x.Box
	}
	return b
}

func TestRowOf(t *testing.T) {
	s := crossover(t)
	lamps := "; lamps .... .... .... ...."
	wantRowOf(t, "nothing is set", s, impl.Start(s), "next -1 -1 -1 -1; far 0 0 0 0; open ...."+lamps)
	wantRowOf(t, "the first of two ways", s, boxBehind(t, s, "ask 0"), "next -1 -1 -1 -1; far 45 0 0 0; open x..."+lamps)
	wantRowOf(t, "a way that is set and not clear", s, boxBehind(t, s, "stick 0, hand 0 2, ask 1"), "next -1 -1 -1 -1; far 0 0 0 0; open ...."+lamps)
	wantRowOf(t, "two signals", s, boxBehind(t, s, "ask 0, ask 3"), "next -1 -1 -1 -1; far 45 0 45 0; open x.x."+lamps)
	s.Fronts, s.Longs = nil, nil
	wantRowOf(t, "the last of two ways", s, boxBehind(t, s, "ask 1", "", ""), "next -1 -1 -1 -1; far 85 0 0 0; open x..."+lamps)
	wantRowOf(t, "the only way", s, boxBehind(t, s, "ask 2"), "next -1 -1 -1 -1; far 0 45 0 0; open .x.."+lamps)
	wantRowOf(t, "broken lamps", s, boxBehind(t, s, "ask 2, lamp 0 0, lamp 2 3, lamp 2 1, lamp 3 2"), "next -1 -1 -1 -1; far 0 45 0 0; open .x..; lamps x... .... .x.x ..x.")
	p := passing(t)
	wantRowOf(t, "a way to another signal", p, boxBehind(t, p, "ask 0"), "next 1 -1 -1; far 300 0 0; open x..; lamps .... .... ....")
	wantRowOf(t, "the second way, to another one", p, boxBehind(t, p, "ask 1", ""), "next 2 -1 -1; far 350 0 0; open x..; lamps .... .... ....")
	wantRowOf(t, "one behind the other", p, boxBehind(t, p, "ask 0, ask 2"), "next 1 -1 -1; far 300 60 0; open xx.; lamps .... .... ....")
	wantRowOf(t, "no signals", onSite(lone()), impl.Start(onSite(lone())), "next ; far ; open ; lamps ")
}

func TestRowOfASignalWithNoWay(t *testing.T) {
	s := siteOf(t, netOf(t, "a9 b9", "end a0\nplain a1 b0\nend b1"), "a3+ a5+ b2-", "")
	if got := len(impl.Ways(s)); got != 2 {
		t.Fatalf("there are %d ways", got)
	}
	wantRowOf(t, "from a signal to one on its own piece", s, boxBehind(t, s, "ask 0"), "next -1 -1 -1; far 0 13 0; open .x.; lamps .... .... ....")
}

// fan has one signal with so many ways from it.
func fan(ways int) impl.Site {
	b := &builder{}
	first, tip := b.begin(), b.piece()
	b.join(impl.JPlain, end(first, 1), end(tip, 0))
	b.spread(end(tip, 1), ways)
	return impl.Site{Net: b.net, Signals: []impl.Signal{post(0, first, 50, 1)}, Hold: 1}
}

func TestRowOfSeveralWays(t *testing.T) {
	s := fan(4)
	ways := impl.Ways(s)
	if len(ways) != 4 {
		t.Fatalf("there are %d ways", len(ways))
	}
	for k, way := range ways {
		far := 0
		for _, p := range way.Parts {
			far += p.To - p.From
		}
		b := boxBehind(t, s, "ask "+strconv.Itoa(k), "")
		wantRowOf(t, "way "+strconv.Itoa(k), s, b, "next -1; far "+strconv.Itoa(far)+"; open x; lamps ....")
	}
	// More than one at once: the frame is none, since they exclude each other.
	b := boxBehind(t, s, "ask 0", "")
	for k := 1; k < 4; k++ {
		more := copyBox(b)
		more.Frame.Ways[k].State, more.Frame.Ways[k].Shown = impl.WClear, true
		wantNoBox(t, "ways 0 and "+strconv.Itoa(k), s, more)
	}
	for _, state := range []int{impl.WIdle, impl.WSet, impl.WTaking, impl.WUsed} {
		other := copyBox(b)
		h := &other.Frame.Ways[0]
		h.State = state
		switch state {
		case impl.WIdle:
			h.Shown = false
		case impl.WSet:
			other.Frame.Points[0].Lies = 0
		case impl.WTaking:
			h.Timer = 1
		case impl.WUsed:
			other.Frame.Occ[1], h.Been[0] = true, true
		}
		wantRowOf(t, "way 0 in state "+strconv.Itoa(state), s, other, "next -1; far 0; open .; lamps ....")
	}
}

func TestRowOfFar(t *testing.T) {
	for _, c := range []struct{ long, far int }{{999988, 999999}, {999989, 1000000}, {999990, 1000000}, {999991, 1000000}, {impl.MaxLen, 1000000}} {
		n := netOf(t, "a12 b9", "end a0\nplain a1 b0\nend b1")
		n.Pieces[1].Len = c.long
		s := siteOf(t, n, "a1+", "")
		if got := impl.RowOf(s, boxBehind(t, s, "ask 0")); !slices.Equal(got.Far, []int{c.far}) {
			t.Errorf("a piece of %d: %s", c.long, wholeRowText(got))
		}
	}
	n := line(31)
	for p := range n.Pieces {
		n.Pieces[p].Len = impl.MaxLen
	}
	s := onSite(n)
	s.Signals = []impl.Signal{post(0, 0, 1, 1)}
	if got := wholeRowText(impl.RowOf(s, boxBehind(t, s, "ask 0"))); got != "next -1; far 1000000; open x; lamps ...." {
		t.Errorf("as far as a way can be: %s", got)
	}
}

func TestBoxNumbers(t *testing.T) {
	got := []int{impl.MaxTicks, impl.MaxSpeedy, impl.HAsk, impl.HBack, impl.HHand, impl.HStick, impl.HFree, impl.HLamp, impl.HBulbs, impl.HGhost, impl.HDead, impl.HAlive, impl.HReset, impl.HSpeed, impl.HTurn}
	if want := []int{400, 200, 1, 2, 3, 4, 5, 6, 7, 8, 9, 10, 11, 12, 13}; !slices.Equal(got, want) {
		t.Errorf("the numbers that the document names are %v, not %v", got, want)
	}
	if words := happenWords(); strings.Join(words[1:4], " ") != "ask back hand" || len(words) != 14 {
		t.Errorf("the test's own words are %v", words)
	}
}

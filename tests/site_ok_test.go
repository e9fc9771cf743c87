package tests

import (
	"slices"
	"strconv"
	"strings"
	"testing"

	"loop.example/signalbox/impl"
)

func onSite(n impl.Net) impl.Site { return impl.Site{Net: n, Hold: 1} }

func TestSiteRight(t *testing.T) {
	wantSite(t, "passing", passing(t), 0)
	wantSite(t, "crowded", crowded(), 0)
	wantSite(t, "no signals, no trains", onSite(lone()), 0)
	wantSite(t, "empty lists", impl.Site{Net: lone(), Signals: []impl.Signal{}, Fronts: []impl.Spot{}, Longs: []int{}, Hold: 1}, 0)
	wantSite(t, "no site", impl.Site{}, 1)
}

func TestSiteNeedsRightSignals(t *testing.T) {
	for _, a := range netSpoils() {
		s := crowded()
		s.Net = copyOf(s.Net)
		a.do(&s.Net)
		wantSite(t, a.what, s, 1)
	}
	for _, a := range signalSpoils() {
		s := crowded()
		a.do(s.Signals)
		wantSite(t, a.what, s, 1)
	}
	s := onSite(yard())
	s.Signals = manyPosts(impl.MaxSignals)
	wantSite(t, "MaxSignals", s, 0)
	s.Signals = manyPosts(impl.MaxSignals + 1)
	wantSite(t, "one more", s, 1)
}

func TestSitePieces(t *testing.T) {
	for _, c := range []struct{ pieces, want int }{{1, 0}, {2, 0}, {39, 0}, {40, 0}, {41, 1}, {42, 1}, {99, 1}, {100, 1}, {101, 1}} {
		wantSite(t, strconv.Itoa(c.pieces)+" pieces", onSite(line(c.pieces)), c.want)
	}
	wantSite(t, "40 pieces apart", onSite(scattered(40, 0)), 0)
	wantSite(t, "41 pieces apart", onSite(scattered(41, 0)), 1)
}

// ladder is a line with so many sidings: two switches, and three pieces, for each.
func ladder(sidings int) impl.Net {
	b := &builder{}
	b.chain(b.diamonds(b.begin(), sidings), 0)
	return b.net
}

// switched is 3 pieces for each two switches: all their ends are ends of switches. None has a pair of one piece.
func switched(pairs int) impl.Net {
	b := &builder{}
	var ends []impl.End
	for range 3 * pairs {
		p := b.piece()
		ends = append(ends, end(p, 0), end(p, 1))
	}
	for i := range 2 * pairs {
		// Ends that are far from each other are of other pieces.
		b.join(impl.JSwitch, ends[i], ends[i+2*pairs], ends[i+4*pairs])
	}
	return b.net
}

func TestSitePairsAndSwitches(t *testing.T) {
	// 26 switches and a plain joint: there are no 40 pieces with more pairs.
	n := switched(13)
	b := &builder{net: n}
	last := b.piece()
	b.join(impl.JEnd, end(last, 0))
	b.join(impl.JEnd, end(last, 1))
	wantSite(t, "26 switches", onSite(b.net), 0)
	if got := impl.LayoutOf(onSite(b.net)); got.Sections != 40 || len(got.Counters) != 52+40 {
		t.Errorf("26 switches and 40 pieces: %s", layoutText(got))
	}
	if got := impl.PlanOf(onSite(b.net)); len(got.Switches) != 26 {
		t.Errorf("26 switches: %s", planText(got))
	}
	// Beyond 40 pieces, where pairs and switches come to their own limits, all are too many.
	for _, pairs := range []int{14, 20, 21} {
		if got := impl.NetOk(switched(pairs)); got != (impl.Fault{}) {
			t.Fatalf("the test's own net is not right: %v", got)
		}
		wantSite(t, strconv.Itoa(2*pairs)+" switches", onSite(switched(pairs)), 1)
	}
	for _, pieces := range []int{60, 61} {
		wantSite(t, strconv.Itoa(2*pieces)+" pairs and pieces", onSite(hoop(same(100, pieces)...)), 1)
	}
	wantSite(t, "40 pairs and 40 pieces", onSite(hoop(same(100, 40)...)), 0)
	wantSite(t, "12 sidings", onSite(ladder(12)), 0)
}

func TestSitePairsOfOnePiece(t *testing.T) {
	for _, c := range []struct {
		what, pieces, joints string
		want                 int
	}{
		{"a plain joint", "a9", "plain a0 a1", 1},
		{"a plain joint, the other way round", "a9", "plain a1 a0", 1},
		{"a plain joint behind others", "a9 b9", "end b0\nend b1\nplain a0 a1", 1},
		{"two plain joints of two pieces", "a9 b9", "plain a1 b0\nplain b1 a0", 0},
		{"a switch, tip and left", "a9 b9", "switch a0 a1 b0\nend b1", 1},
		{"a switch, tip and right", "a9 b9", "switch a0 b0 a1\nend b1", 1},
		{"a switch, left and right", "a9 b9", "switch a0 b0 b1\nend a1", 0},
		{"a crossing, first and second", "a9 b9 c9", "cross a0 a1 b0 c0\nend b1\nend c1", 1},
		{"a crossing, third and fourth", "a9 b9 c9", "cross b0 c0 a0 a1\nend b1\nend c1", 1},
		{"a crossing, first and third", "a9 b9 c9", "cross a0 b0 a1 c0\nend b1\nend c1", 0},
		{"a crossing, first and fourth", "a9 b9 c9", "cross a0 b0 c0 a1\nend b1\nend c1", 0},
		{"a crossing, second and third", "a9 b9 c9", "cross b0 a0 a1 c0\nend b1\nend c1", 0},
		{"a crossing, second and fourth", "a9 b9 c9", "cross b0 a0 c0 a1\nend b1\nend c1", 0},
		{"a crossing of two pieces, both pairs", "a9 b9", "cross a0 b0 a1 b1", 0},
		{"a crossing of two pieces, each with itself", "a9 b9", "cross a0 a1 b0 b1", 1},
		{"buffers", "a9", "end a0\nend a1", 0},
	} {
		wantSite(t, c.what, onSite(netOf(t, c.pieces, c.joints)), c.want)
	}
}

func TestSiteHold(t *testing.T) {
	for _, c := range []struct{ hold, want int }{{farBelow, 1}, {-1, 1}, {0, 1}, {1, 0}, {2, 0}, {299, 0}, {300, 0}, {301, 1}, {farAbove, 1}} {
		s := passing(t)
		s.Hold = c.hold
		wantSite(t, "Hold "+strconv.Itoa(c.hold), s, c.want)
		s.Longs = nil
		wantSite(t, "Hold "+strconv.Itoa(c.hold)+", and no Longs", s, []int{2, 1}[c.want])
	}
}

// beside is so many trains, each on a piece of its own.
func beside(trains int) impl.Site {
	s := onSite(scattered(trains, 0))
	for p := range trains {
		s.Fronts = append(s.Fronts, impl.Spot{Piece: p, At: 60, Way: 1})
		s.Longs = append(s.Longs, 20+p)
	}
	return s
}

func TestSiteTrains(t *testing.T) {
	for _, c := range []struct{ trains, want int }{{1, 0}, {2, 0}, {5, 0}, {6, 0}, {7, 2}, {8, 2}, {40, 2}} {
		s := beside(c.trains)
		wantSite(t, strconv.Itoa(c.trains)+" trains", s, c.want)
		s.Longs = s.Longs[:c.trains-1]
		wantSite(t, strconv.Itoa(c.trains)+" trains, one Long too few", s, 2)
		s.Longs = append(s.Longs, 20, 20)
		wantSite(t, strconv.Itoa(c.trains)+" trains, one Long too many", s, 2)
		s.Longs = nil
		wantSite(t, strconv.Itoa(c.trains)+" trains, no Longs", s, 2)
		s.Fronts, s.Longs = nil, []int{20}
		wantSite(t, strconv.Itoa(c.trains)+" pieces, no trains, one Long", s, 2)
	}
}

func TestSiteLongs(t *testing.T) {
	try := func(what string, s impl.Site, at, long, want int) {
		t.Helper()
		s.Longs = slices.Clone(s.Longs)
		s.Longs[at] = long
		wantSite(t, what+", Long "+strconv.Itoa(long), s, want)
	}
	long := onSite(netOf(t, "a5000 b6000", "end a0\nend a1\nend b0\nend b1"))
	long.Fronts = []impl.Spot{{Piece: 0, At: 4000, Way: 1}, {Piece: 1, At: 2000, Way: -1}}
	long.Longs = []int{7, 8}
	for _, c := range []struct{ long, want int }{{farBelow, 2}, {-1000, 2}, {-1, 2}, {0, 2}, {1, 0}, {2, 0}, {999, 0}, {1000, 0}, {1001, 2}, {3000, 2}, {100000, 2}, {farAbove, 2}} {
		try("long pieces, the first", long, 0, c.long, c.want)
		try("long pieces, the second", long, 1, c.long, c.want)
	}
	for order, pieces := range []string{"a300 b60 c400", "a60 b300 c400", "a400 b300 c60"} {
		s := siteOf(t, netOf(t, pieces, "end a0\nend a1\nend b0\nend b1\nend c0\nend c1"), "", []string{"a200+/10", "b200+/10", "a200-/10"}[order])
		for _, c := range []struct{ long, want int }{{1, 0}, {59, 0}, {60, 0}, {61, 2}, {100, 2}} {
			try(pieces, s, 0, c.long, c.want)
		}
	}
	s := siteOf(t, netOf(t, "a1 b50", "end a0\nend a1\nend b0\nend b1"), "", "b20+/1 a1+/1")
	try("the shortest piece", s, 0, 1, 0)
	try("the shortest piece", s, 0, 2, 2)
}

func TestSitePlaces(t *testing.T) {
	n := netOf(t, "a30 b40 c50 d60 e70", `
		end a0
		plain a1 b0
		switch b1 c0 d0
		end c1
		end d1
		end e0
		end e1`)
	for _, c := range []struct {
		what, train string
		want        int
	}{
		{"in the midst of a piece", "a20+/10", 0},
		{"just to the buffer behind it", "a10+/10", 0},
		{"one too far back", "a9+/10", 3},
		{"one too far back, the other way", "e61-/10", 3},
		{"just to the buffer, the other way", "e60-/10", 0},
		{"at the end of its piece", "a30+/10", 0},
		{"at the end of its piece, the other way", "a0-/10", 0},
		{"one behind the beginning of its piece", "b1+/10", 0},
		{"just where its piece begins", "b0+/10", 3},
		{"just where its piece begins, the other way", "a30-/10", 3},
		{"one behind the beginning of its piece, the other way", "a29-/10", 0},
		{"just where its piece begins, at a buffer", "a0+/1", 3},
		{"just where its piece begins, at a buffer, the other way", "c50-/1", 3},
		{"just where its piece begins, behind a switch", "c0+/1", 3},
		{"of length 1 and one behind", "a1+/1", 0},
		{"of length 1 and one behind, the other way", "c49-/1", 0},
		{"over a switch that lies so", "c5+/10", 0},
		{"over a switch that lies so, the other way", "b35-/10", 0},
		{"beside a switch that does not lie so", "d10+/10", 0},
		{"over a switch that does not lie so", "d9+/10", 3},
		{"to the end at a switch that does not lie so", "d0-/10", 0},
	} {
		wantSite(t, c.what, siteOf(t, n, "", c.train), c.want)
		if !strings.HasPrefix(c.train, "e") {
			wantSite(t, c.what+", the second", siteOf(t, n, "", "e40+/5 "+c.train), c.want)
		}
	}
	for _, c := range []struct {
		what  string
		front impl.Spot
	}{
		{"no piece below", impl.Spot{Piece: -1, At: 20, Way: 1}},
		{"no piece above", impl.Spot{Piece: 5, At: 20, Way: 1}},
		{"a piece far below", impl.Spot{Piece: farBelow, At: 20, Way: 1}},
		{"a piece far above", impl.Spot{Piece: farAbove, At: 20, Way: 1}},
		{"a place below", impl.Spot{Piece: 1, At: -1, Way: 1}},
		{"a place below, the other way", impl.Spot{Piece: 1, At: -1, Way: -1}},
		{"a place above", impl.Spot{Piece: 1, At: 41, Way: 1}},
		{"a place above, the other way", impl.Spot{Piece: 1, At: 41, Way: -1}},
		{"a place far below", impl.Spot{Piece: 1, At: farBelow, Way: -1}},
		{"a place far above", impl.Spot{Piece: 1, At: farAbove, Way: 1}},
		{"no Way", impl.Spot{Piece: 1, At: 20}},
		{"a Way above", impl.Spot{Piece: 1, At: 20, Way: 2}},
		{"a Way below", impl.Spot{Piece: 1, At: 20, Way: -2}},
		{"a Way far below", impl.Spot{Piece: 1, At: 20, Way: farBelow}},
	} {
		s := siteOf(t, n, "", "a20+/10 e40+/5")
		s.Fronts[0] = c.front
		wantSite(t, c.what, s, 3)
		s.Fronts[0], s.Fronts[1] = s.Fronts[1], s.Fronts[0]
		wantSite(t, c.what+", the second", s, 3)
	}
}

func TestSiteTrainsOnOnePiece(t *testing.T) {
	n := netOf(t, "a30 b40 c50 d60", `
		end a0
		plain a1 b0
		plain b1 c0
		end c1
		end d0
		end d1`)
	for _, c := range []struct {
		what, trains string
		want         int
	}{
		{"on pieces side by side", "a30+/10 b40+/10", 0},
		{"on pieces side by side, they touch at the joint", "a30+/10 b10+/10", 0},
		{"on pieces side by side, looking at each other", "a30+/10 b0-/10", 0},
		{"on one piece, the same", "b30+/10 b30+/10", 4},
		{"on one piece, together", "b30+/10 b35+/10", 4},
		{"on one piece, they touch", "b20+/10 b30+/10", 4},
		{"on one piece, apart", "b10+/10 b40+/10", 4},
		{"on one piece, apart, looking at each other", "b10+/10 b30-/10", 4},
		{"over two pieces, and one on that of its front", "b5+/10 b40+/10", 4},
		{"over two pieces, and one on the other", "b5+/10 a10+/10", 4},
		{"over two pieces, and one on neither", "b5+/10 c20+/10", 0},
		{"over two pieces, and one over the next two", "b5+/10 c5+/10", 4},
		{"over two pieces both, one in common", "b5+/10 c9+/10", 4},
		{"over two pieces, just not over two", "b10+/10 a10+/10", 0},
		{"far apart", "a20+/10 d50+/10", 0},
		{"three, none together", "a20+/10 b30+/10 c40+/10", 0},
		{"three, the first and the last together", "a20+/10 b30+/10 a10-/10", 4},
		{"three, the last two together", "a20+/10 b30+/10 b15-/10", 4},
		{"three, the first two together", "a20+/10 a15+/10 b15-/10", 4},
		{"one over two pieces alone", "b5+/10", 0},
	} {
		wantSite(t, c.what, siteOf(t, n, "", c.trains), c.want)
		words := strings.Fields(c.trains)
		slices.Reverse(words)
		wantSite(t, c.what+", in the other order", siteOf(t, n, "", strings.Join(words, " ")), c.want)
	}
}

func TestSiteHowManyWays(t *testing.T) {
	s := fullStation()
	wantSite(t, "MaxWays", s, 0)
	if got := impl.Ways(s); len(got) != 100 {
		t.Errorf("there are %d ways", len(got))
	}
	s.Signals = append(s.Signals, post(10, 37, 80, -1))
	wantSite(t, "MaxWays, and a route that is no way", s, 0)
	s.Signals = append(s.Signals, post(11, 37, 80, 1))
	wantSite(t, "one more", s, 5)
	s.Signals[11], s.Signals[0] = s.Signals[0], s.Signals[11]
	wantSite(t, "one more, the first", s, 5)
	s.Signals = s.Signals[:11]
	wantSite(t, "ten less", s, 0)
	wantSite(t, "11 to 10", station(11, 10), 5)
	wantSite(t, "9 to 11", station(9, 11), 0)
}

// Where there are more routes than Routes tells, it tells of none, and there are no ways.
func TestSiteTooManyRoutes(t *testing.T) {
	b := &builder{net: ladder(12)}
	s := onSite(b.net)
	for i := range 8 {
		s.Signals = append(s.Signals, post(i, 0, 10+i, 1))
	}
	s.Signals = append(s.Signals, post(8, len(b.net.Pieces)-4, 50, 1))
	if got := impl.Routes(s.Net, s.Signals, 0); len(got) != 0 {
		t.Fatalf("there are %d routes", len(got))
	}
	wantWays(t, "too many routes", s, "")
}

// siteSpoils are faults of a full station of which any may stand together.
func siteSpoils() []struct {
	what string
	do   func(s *impl.Site)
	want int
} {
	return []struct {
		what string
		do   func(s *impl.Site)
		want int
	}{
		{"no Name", func(s *impl.Site) { s.Net.Pieces[3].Name = "" }, 1},
		{"41 pieces", func(s *impl.Site) {
			b := &builder{net: s.Net}
			b.chain(b.begin(), 1)
			s.Net = b.net
		}, 1},
		{"a ring", func(s *impl.Site) {
			b := &builder{net: s.Net}
			p := b.piece()
			b.join(impl.JPlain, end(p, 0), end(p, 1))
			s.Net = b.net
		}, 1},
		{"no Hold", func(s *impl.Site) { s.Hold = 0 }, 1},
		{"a signal at no piece", func(s *impl.Site) { s.Signals[2].Piece = 99 }, 1},
		{"no Longs", func(s *impl.Site) { s.Longs = nil }, 2},
		{"a Long below 1", func(s *impl.Site) {
			if len(s.Longs) > 0 {
				s.Longs[0] = 0
			}
		}, 2},
		{"a short piece", func(s *impl.Site) { s.Net.Pieces[36].Len = 29 }, 2},
		{"no room", func(s *impl.Site) { s.Fronts[0].At = 39 }, 3},
		{"no Way", func(s *impl.Site) { s.Fronts[0].Way = 0 }, 3},
		{"at the beginning", func(s *impl.Site) { s.Fronts[1].At = 0 }, 3},
		{"two on one piece", func(s *impl.Site) { s.Fronts[1].Piece = 37 }, 4},
		{"one way more", func(s *impl.Site) { s.Signals = append(s.Signals, post(20, 37, 80, 1)) }, 5},
	}
}

func TestSiteOrderOfFaults(t *testing.T) {
	spoils := siteSpoils()
	for i, a := range spoils {
		wantSite(t, a.what, spoiled(a.do), a.want)
		for k, b := range spoils[:i] {
			wantSite(t, b.what+", "+a.what, spoiled(b.do, a.do), b.want)
			for _, c := range spoils[:k] {
				wantSite(t, c.what+", "+b.what+", "+a.what, spoiled(c.do, b.do, a.do), c.want)
			}
		}
	}
}

func spoiled(how ...func(s *impl.Site)) impl.Site {
	s := copySite(fullStation())
	for _, do := range how {
		do(&s)
	}
	return s
}

func TestSiteNumbers(t *testing.T) {
	got := []int{impl.MaxSitePieces, impl.MaxSiteTrains, impl.MaxSiteLong}
	if want := []int{40, 6, 1000}; !slices.Equal(got, want) {
		t.Errorf("the numbers that the document names are %v, not %v", got, want)
	}
}

package tests

import (
	"strings"
	"testing"

	"loop.example/signalbox/impl"
)

// crossover is two lines, a b c and d e f, with a piece x from a switch (0) at b to one (1) at e; signals on a, d, f and c, a train at that on a, and one ahead of that on f.
//
//	ways 0: a b c; 1: a b x e f; 2: d e f; 3: f e d; 4: f e x b a; 5: c b a
//	counters 0: a b; 1: b c; 2: b x; 3: e d; 4: e x; 5: e f; 6 to 12: from outside
func crossover(t *testing.T) impl.Site {
	t.Helper()
	n := netOf(t, "a20 b20 c20 d20 e20 f20 x20", `
		end a0
		plain a1 b0
		switch b1 c0 x0
		end c1
		end d0
		switch e0 d1 x1
		plain e1 f0
		end f1`)
	return siteOf(t, n, "a15+ d15+ f5- c5-", "a15+/4 f10-/4")
}

// lined takes the lines of a text as they are written in a test.
func lined(text string) string {
	var out []string
	for _, line := range strings.Split(strings.TrimSpace(text), "\n") {
		out = append(out, strings.TrimSpace(line))
	}
	return strings.Join(out, "\n")
}

func wantStart(t *testing.T, what string, s impl.Site, want string) {
	t.Helper()
	wantSite(t, what, s, 0)
	b := impl.Start(s)
	if got := lined(boxText(s.Net, b)); got != lined(want) {
		t.Errorf("%s: Start is\n%s\nnot\n%s", what, got, lined(want))
	}
	if got := impl.Tick(s, b, nil); !got.Ok {
		t.Errorf("%s: what Start answers is no box of the site", what)
	}
	if w := slowWorldOf(s); boxText(s.Net, b) != boxText(s.Net, w.start()) {
		t.Errorf("%s: Start is\n%s\nnot\n%s", what, boxText(s.Net, b), boxText(s.Net, w.start()))
	}
}

func TestStart(t *testing.T) {
	wantStart(t, "a train on one piece", passing(t), `
		ok true
		count .0 .0 .0 .0 #2+
		frame ....# 11 11 / - - - -
		lies 0 1 1 0 0
		stuck ..
		lamps .... .... ....
		train z50+ 20
		free .
		speeds 0`)
	s := passing(t)
	s.Fronts[0] = spotAt(t, s.Net, "a5+")
	wantStart(t, "a train over two pieces", s, `
		ok true
		count #1+ .0 .0 .0 #1+
		frame #...# 11 11 / - - - -
		lies 0 1 1 0 0
		stuck ..
		lamps .... .... ....
		train a5+ 20 z+
		free .
		speeds 0`)
	s.Fronts[0] = spotAt(t, s.Net, "a95-")
	wantStart(t, "a train over a switch", s, `
		ok true
		count #1+ #1+ .0 .0 .0
		frame ##... 11 11 / - - - -
		lies 0 1 1 0 0
		stuck ..
		lamps .... .... ....
		train a95- 20 b-
		free .
		speeds 0`)
	wantStart(t, "two trains", crossover(t), `
		ok true
		count #2+ .0 .0 .0 .0 #2+ .0
		frame #....#. 11 11 / - - - - - -
		lies 0 0 1 0 0 1 0 0
		stuck ..
		lamps .... .... .... ....
		train a15+ 4
		train f10- 4
		free ..
		speeds 0 0`)
	s = crossover(t)
	s.Fronts, s.Longs = nil, nil
	wantStart(t, "no trains", s, `
		ok true
		count .0 .0 .0 .0 .0 .0 .0
		frame ....... 11 11 / - - - - - -
		lies 0 0 1 0 0 1 0 0
		stuck ..
		lamps .... .... .... ....
		free
		speeds`)
	wantStart(t, "no switches, no signals, no trains", onSite(lone()), `
		ok true
		count .0
		frame . /
		lies 0 0
		stuck
		lamps
		free
		speeds`)
}

func TestStartFields(t *testing.T) {
	s := crossover(t)
	b := impl.Start(s)
	if !b.Ok || !impl.CountOk(impl.LayoutOf(s), b.Count) || !impl.FrameOk(impl.PlanOf(s), b.Frame) || !impl.LiesOk(s.Net, b.Lies) {
		t.Errorf("Start is\n%s", boxText(s.Net, b))
	}
	if len(b.Stuck) != 2 || len(b.Works) != 4 || len(b.Trains) != 2 || len(b.Free) != 2 || len(b.Speeds) != 2 {
		t.Errorf("Start is\n%s", boxText(s.Net, b))
	}
	for i, x := range b.Trains {
		if want := impl.Place(s.Net, b.Lies, s.Fronts[i], s.Longs[i]); trainText(s.Net, x) != trainText(s.Net, want.Train) {
			t.Errorf("train %d is %s", i, trainText(s.Net, x))
		}
	}
}

// Six trains over two pieces each, as many as there may be, with their counters.
func TestStartManyTrains(t *testing.T) {
	s := impl.Site{Net: hoop(same(10, 12)...), Hold: 1}
	want := "count"
	for i := range impl.MaxSiteTrains {
		s.Fronts = append(s.Fronts, impl.Spot{Piece: 2*i + 1, At: 3, Way: 1})
		s.Longs = append(s.Longs, 4+i)
		want += " #1+ #1+"
	}
	if got := boxText(s.Net, impl.Start(s)); !strings.Contains(got, want+"\n") {
		t.Errorf("Start is\n%s", got)
	}
}

func TestStartWrongSites(t *testing.T) {
	for _, spoil := range siteSpoils() {
		s := spoiled(spoil.do)
		if got := boxText(s.Net, impl.Start(s)); got != boxText(s.Net, impl.Box{}) {
			t.Errorf("%s: Start is\n%s", spoil.what, got)
		}
	}
	if impl.Start(impl.Site{}).Ok {
		t.Error("no site")
	}
}

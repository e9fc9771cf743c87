package tests

import (
	"strconv"
	"testing"

	"loop.example/signalbox/impl"
)

func TestWaysOfASite(t *testing.T) {
	wantWays(t, "passing", passing(t), `
		0>1 z+ a+ b+ | z70-80 a0-100 b0-190 | lies 1=1 | flanks 1:switch2=1
		0>2 z+ a+ c+ | z70-80 a0-100 c0-240 | lies 1=2 | flanks 1:switch2=2
		1>-1 b+ d+ | b190-200 d0-50 | lies 2=1 | flanks 2:signal2
		2>-1 c+ d+ | c240-250 d0-50 | lies 2=2 | flanks 2:signal1`)
	wantWays(t, "crowded", crowded(), `
		2>-1 b+ d+ f+ g+ h+ i+ k+ | b50-100 d0-100 f0-100 g0-100 h0-100 i0-100 k0-100 | lies 4=1 | crosses 2 5 5 | flanks 4:switch1=1
		3>1 k- i- h- g- f- d- b- a- | k0-1 i0-100 h0-100 g0-100 f0-100 d0-100 b0-100 a50-100 | lies 4=1 1=1 | crosses 5 5 2 | flanks 4:switch1=1 1:switch4=1
		3>1 k- i- h- g- e- c- a- | k0-1 i0-100 h0-100 g0-100 e0-100 c0-100 a50-100 | lies 4=2 1=2 | crosses 5 5 2 | flanks 4:signal2 1:switch4=2`)
	wantWays(t, "no signals", onSite(lone()), "")
}

func TestWaysSteps(t *testing.T) {
	for _, c := range []struct {
		last int
		way  bool
	}{{1, true}, {2, true}, {29, true}, {30, true}, {31, false}, {32, false}, {38, false}} {
		var there, back []int
		if c.way {
			there, back = []int{0}, []int{0}
		}
		// From the second signal to the buffer there are as many pieces as are left.
		if left := 40 - c.last; left >= 2 && left <= 31 {
			there = append(there, 1)
		}
		s := onSite(line(40))
		s.Signals = []impl.Signal{post(0, 0, 50, 1), post(1, c.last, 50, 1)}
		wantWaysOf(t, "to piece "+strconv.Itoa(c.last), s, there...)
		s.Signals = []impl.Signal{post(0, c.last, 50, -1), post(1, 0, 50, -1)}
		wantWaysOf(t, "back from piece "+strconv.Itoa(c.last), s, back...)
	}
	for _, c := range []struct {
		pieces int
		ways   []int
	}{{1, nil}, {2, []int{0}}, {3, []int{0}}, {30, []int{0}}, {31, []int{0}}, {32, nil}, {33, nil}, {40, nil}} {
		s := onSite(line(c.pieces))
		s.Signals = []impl.Signal{post(0, 0, 50, 1)}
		wantWaysOf(t, "to a buffer, pieces "+strconv.Itoa(c.pieces), s, c.ways...)
	}
	s := onSite(line(3))
	s.Signals = []impl.Signal{post(0, 0, 20, 1), post(1, 0, 40, 1), post(2, 0, 60, 1), post(3, 2, 50, 1), post(4, 0, 50, -1), post(5, 2, 40, -1)}
	wantWaysOf(t, "from signal to signal on one piece", s, 2, 5)
}

func TestWaysThatComeBack(t *testing.T) {
	s := onSite(hoop(100, 100, 100))
	s.Signals = []impl.Signal{post(0, 0, 50, 1)}
	wantWaysOf(t, "round to its own signal", s)
	s.Signals = []impl.Signal{post(0, 0, 50, 1), post(1, 0, 20, 1)}
	wantWaysOf(t, "round to the signal behind it", s)
	s.Signals = []impl.Signal{post(0, 0, 50, 1), post(1, 1, 20, 1)}
	wantWaysOf(t, "round in two", s, 0, 1)
	s.Signals = []impl.Signal{post(0, 0, 50, 1), post(1, 1, 20, 1), post(2, 1, 30, 1)}
	wantWaysOf(t, "round in three, of which one is on one piece", s, 0, 2)
	s.Signals = []impl.Signal{post(0, 0, 50, -1), post(1, 2, 20, 1)}
	wantWaysOf(t, "round, each to its own signal", s)
	n := netOf(t, "a9 b9 c9", "end a0\ncross a1 b0 b1 c0\nend c1")
	wantWaysOf(t, "over a crossing twice, to pieces that are all others", siteOf(t, n, "a5+", ""), 0)
	n = netOf(t, "a9 b9 c9 d9", "end a0\nswitch b0 a1 d1\nplain b1 c0\nplain c1 d0")
	wantWaysOf(t, "round and round, with no end", siteOf(t, n, "a5+", ""))
	wantWaysOf(t, "round to where a signal ends it", siteOf(t, n, "a5+ d5+ d4-", ""), 0, 2)
	n = netOf(t, "a9 b9 c9 d9", "end a0\nplain a1 b0\nswitch b1 c0 d1\nplain c1 d0")
	wantWaysOf(t, "round over one switch, from between its others", siteOf(t, n, "a5+ c5+", ""), 0, 1)
}

func TestWaysTips(t *testing.T) {
	n := netOf(t, "a9 b9 c9 d9", "end a0\nplain a1 b0\nswitch b1 c0 d0\nend c1\nend d1")
	wantWaysOf(t, "the tip's piece is one behind the first", siteOf(t, n, "a5+", ""), 0, 1)
	wantWaysOf(t, "the tip's piece is the first", siteOf(t, n, "b5+", ""))
	wantWaysOf(t, "to the tip's piece, and from it", siteOf(t, n, "a3+ a5+ b5+", ""), 1)
	wantWaysOf(t, "over the switch to its tip", siteOf(t, n, "c5- d5-", ""), 0, 1)
	wantWaysOf(t, "over the switch to its tip's piece", siteOf(t, n, "c5- d5- b5-", ""), 0, 1, 2)
	n = netOf(t, "a9 b9 c9 d9 e9 f9", "end a0\nswitch b0 a1 e0\nswitch b1 c0 d0\nend c1\nend d1\nplain e1 f0\nend f1")
	wantWaysOf(t, "one tip's piece of two switches", siteOf(t, n, "a5+ f5-", ""), 0, 1, 2, 3)
	wantWaysOf(t, "a signal between two switches", siteOf(t, n, "a5+ b5+", ""), 0)
	n = netOf(t, "a9 b9 c9 d9 e9 f9", "end a0\nplain a1 b0\nswitch b1 c0 d0\nswitch c1 e0 f0\nend d1\nend e1\nend f1")
	wantWaysOf(t, "one switch behind the other", siteOf(t, n, "a5+", ""), 0, 1, 2)
	wantWaysOf(t, "back over both", siteOf(t, n, "e5- f5- d5-", ""), 0, 1, 2)
	wantWaysOf(t, "the tip's piece of the first is the first", siteOf(t, n, "b5+", ""))
	wantWaysOf(t, "the tip's piece of the second is the first", siteOf(t, n, "a5+ c5+", ""), 0, 1)
}

// As many switches as a way can be led over: no 40 pieces have more than these 26.
func TestWaysManyLies(t *testing.T) {
	b := &builder{}
	first := b.begin()
	var want []int
	for range 13 {
		middle, next, beside := b.piece(), b.piece(), b.piece()
		b.join(impl.JSwitch, end(middle, 0), end(first, 1), end(beside, 0))
		b.join(impl.JSwitch, end(middle, 1), end(next, 0), end(beside, 1))
		first = next
		want = append(want, middle, next)
	}
	b.chain(first, 0)
	s := onSite(b.net)
	s.Signals = []impl.Signal{post(0, 0, 50, 1)}
	wantWaysOf(t, "26 Lies", s, 0)
	got := impl.PlanOf(s)
	if len(got.Ways) != 1 || numbersText(got.Ways[0].Sections) != numbersText(want) || len(got.Ways[0].Flanks) != 0 {
		t.Fatalf("the plan is\n%s", planText(got))
	}
	for i, x := range got.Ways[0].Lies {
		if x != (impl.Turn{Switch: i, Lie: 1}) {
			t.Errorf("the Lies are %s", turnsText(got.Ways[0].Lies))
		}
	}
}

// triangle is a line a, b, c, d with two switches on it, from whose other ends one comes to the two ends of a third one, at f.
func triangle(t *testing.T) impl.Net {
	t.Helper()
	return netOf(t, "a9 b9 c9 d9 l9 r9 f9", `
		end a0
		plain a1 b0
		switch b1 c0 l0
		switch d0 c1 r0
		end d1
		switch f0 l1 r1
		end f1`)
}

func TestWaysFlanks(t *testing.T) {
	n := triangle(t)
	wantWays(t, "a Flank that wants a switch otherwise than one of another switch before", siteOf(t, n, "a5+", ""), "")
	wantWays(t, "a signal in place of the first", siteOf(t, n, "a5+ l5-", ""), `
		0>-1 a+ b+ c+ d+ | a5-9 b0-9 c0-9 d0-9 | lies 2=1 3=1 | flanks 2:signal1 3:switch5=1
		1>-1 l- b- a- | l0-5 b0-9 a0-9 | lies 2=2 | flanks 2:switch3=2`)
	wantWays(t, "a signal in place of the second", siteOf(t, n, "a5+ r5-", ""), `
		0>-1 a+ b+ c+ d+ | a5-9 b0-9 c0-9 d0-9 | lies 2=1 3=1 | flanks 2:switch5=2 3:signal1
		1>-1 r- d+ | r0-5 d0-9 | lies 3=2 | flanks 3:switch2=2`)
	n = netOf(t, "a9 b9 c9 d9 l9 r9 f9", `
		end a0
		plain a1 b0
		switch b1 c0 d0
		end c1
		switch d1 l0 r0
		switch f0 l1 r1
		end f1`)
	wantWays(t, "otherwise than one of the same switch before, and as Lies do", siteOf(t, n, "a5+ c5-", ""), `
		0>-1 a+ b+ d+ l+ f+ | a5-9 b0-9 d0-9 l0-9 f0-9 | lies 2=2 4=1 5=1 | flanks 2:signal1 4:switch5=1 5:switch4=1
		0>-1 a+ b+ d+ r+ f+ | a5-9 b0-9 d0-9 r0-9 f0-9 | lies 2=2 4=2 5=2 | flanks 2:signal1 4:switch5=2 5:switch4=2`)
	wantWays(t, "as one before does, and Flanks of all other kinds", siteOf(t, returning(t), "q5+", ""), `
		0>-1 q+ t+ m+ z+ | q5-9 t0-9 m0-9 z0-9 | lies 2=1 0=1 | flanks 2:switch3=2 0:open0 0:switch3=2
		0>-1 q+ t+ k+ x+ | q5-9 t0-9 k0-9 x0-9 | lies 2=2 3=1 | flanks 2:switch0=2 3:buffer6`)
}

// returning leads from q over t and m to the switch at whose other end q begins.
func returning(t *testing.T) impl.Net {
	t.Helper()
	return netOf(t, "q9 t9 m9 z9 k9 x9 y9", `
		switch z0 m1 q0
		plain q1 t0
		switch t1 m0 k0
		switch x0 k1 y1
		end z1
		end x1
		end y0`)
}

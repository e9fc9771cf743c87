package tests

import (
	"testing"

	"loop.example/signalbox/impl"
)

func TestSitePlan(t *testing.T) {
	wantPlanOf(t, "passing", passing(t), planOf(t, 5, "0 3", 5, "0-1 0-3 1-2 2-3",
		"0 1 | 0:1 | 1:1 | | 4",
		"0 2 | 0:2 | 1:2 | | 4",
		"3   | 1:1 |     | | 1",
		"3   | 1:2 |     | | 2"))
	wantPlanOf(t, "crowded", crowded(), planOf(t, 10, "0 6", 9, "0-1 0-2 1-2",
		"3 5 6 7 8 9   | 1:1     | 0:1 | | 1",
		"8 7 6 5 3 1 0 | 1:1 0:1 |     | | 9",
		"8 7 6 4 2 0   | 1:2 0:2 |     | | 9"))
	wantPlanOf(t, "a piece alone", onSite(lone()), planOf(t, 1, "", 1, ""))
	s := passing(t)
	s.Hold, s.Signals = 300, nil
	wantPlanOf(t, "no ways", s, planOf(t, 5, "0 3", 300, ""))
}

// The numbers of switches are by their joints, whatever stands between them.
func TestSitePlanSwitches(t *testing.T) {
	n := netOf(t, "a9 b9 c9 d9 e9 f9 g9", `
		end a0
		switch e1 f0 g0
		plain a1 b0
		end c1
		switch b1 c0 d0
		end f1
		plain d1 e0
		end g1`)
	wantPlanOf(t, "the farther one first", siteOf(t, n, "a5+", ""), planOf(t, 7, "4 1", 5, "0-1 0-2 1-2",
		"1 2     | 1:1     | | | 0",
		"1 3 4 5 | 1:2 0:1 | | | 0",
		"1 3 4 6 | 1:2 0:2 | | | 0"))
	n.Joints[1], n.Joints[4] = n.Joints[4], n.Joints[1]
	wantPlanOf(t, "the nearer one first", siteOf(t, n, "a5+", ""), planOf(t, 7, "1 4", 5, "0-1 0-2 1-2",
		"1 2     | 0:1     | | | 0",
		"1 3 4 5 | 0:2 1:1 | | | 0",
		"1 3 4 6 | 0:2 1:2 | | | 0"))
}

func TestSitePlanFlanks(t *testing.T) {
	wantPlanOf(t, "wanted by two Flanks", siteOf(t, returning(t), "q5+", ""), planOf(t, 7, "3 1 5", 5, "0-1",
		"1 2 3 | 1:1 0:1 | 2:2 | | 0",
		"1 4 5 | 1:2 2:1 | 0:2 | | 0"))
	wantPlanOf(t, "in Lies too, a signal, a switch", siteOf(t, triangle(t), "a5+ l5-", ""), planOf(t, 7, "1 3 6", 5, "0-1",
		"1 2 3 | 0:1 1:1 | 2:1 | | 0",
		"1 0   | 0:2     | 1:2 | | 4"))
	// Beside the way from a to c stands a tree of tips, from which one comes to ends of four switches.
	n := netOf(t, "a9 b9 c9 d9 e9 f9 g9 h9 i9 j9 k9 l9 m9 n9 o9 p9 q9 r9", `
		end a0
		plain a1 b0
		switch b1 c0 d0
		end c1
		switch q1 n1 r0
		switch l1 h1 m0
		switch d1 e0 f0
		switch e1 g0 h0
		switch o1 i1 p0
		switch f1 i0 n0
		switch k1 j0 g1
		end j1
		end k0
		end l0
		end m1
		end o0
		end p1
		end q0
		end r1`)
	got := impl.PlanOf(siteOf(t, n, "a5+", ""))
	if len(got.Ways) == 0 || turnsText(got.Ways[0].Flanks) != "7:1 2:2 5:2 1:2" || turnsText(got.Ways[0].Lies) != "0:1" {
		t.Errorf("the plan with four switches beside the first way is\n%s", planText(got))
	}
}

// parallel is two lines a, b, c and d, e, f, apart.
const parallel = "end a0\nplain a1 b0\nplain b1 c0\nend c1\nend d0\nplain d1 e0\nplain e1 f0\nend f1"

const three = "end a0\nplain a1 b0\nplain b1 c0\nend c1"

// forked is two lines a, b, c and d, e, f, over a switch each, and k, to the ends of whose switch one comes from the other ends of these.
const forked = "end a0\nplain a1 b0\nswitch b1 c0 l0\nend c1\nend d0\nplain d1 e0\nswitch e1 f0 r0\nend f1\nswitch k0 l1 r1\nend k1"

// forkedInLine has both switches on one line.
const forkedInLine = "end a0\nplain a1 b0\nswitch b1 c0 l0\nplain c1 d0\nswitch d1 e0 r0\nend e1\nswitch k0 l1 r1\nend k1"

var barsCases = []struct{ what, pieces, joints, signals, bars string }{
	{"ways apart", "a9 b9 c9 d9 e9 f9", parallel, "a5+ d5+", ""},
	{"ways apart, the other way", "a9 b9 c9 d9 e9 f9", parallel, "a5+ f5-", ""},
	{"one ahead of the other, a signal between them", "a9 b9 c9", three, "a5+ b5+ b7+", ""},
	{"a section in common", "a9 b9 c9", "switch c0 a1 b1\nend a0\nend b0\nend c1", "a5+ b5+", "0-1"},
	{"a section in common, and no place; against each other on one piece", "a9 b9 c9", three, "a5+ b3+ b5- c5-", "0-2 0-3 1-2 1-3"},
	{"against each other, no section in common", "a9 b9", "end a0\nplain a1 b0\nend b1", "a5+ b5-", "0-1"},
	{"against each other, few places in common", "a9 b9", "end a0\nplain a1 b0\nend b1", "a5+ b5- b1+ a8-", "0-1"},
	{"over one crossing", "a9 b9 c9 d9", "cross a1 b0 c1 d0\nend a0\nend b1\nend c0\nend d1", "a5+ c5+", "0-1"},
	{"over two crossings", "a9 b9 c9 d9 e9 f9 g9 h9", "cross a1 b0 c1 d0\nend a0\nend b1\nend c0\nend d1\ncross e1 f0 g1 h0\nend e0\nend f1\nend g0\nend h1", "a5+ e5+", ""},
	{"a switch beside both, wanted otherwise", "a9 b9 c9 d9 e9 f9 l9 r9 k9", forked, "a5+ d5+", "0-1 0-2 1-3 2-3"},
	{"linked", "a9 b9 c9", three, "a5+ b5+", ""},
	{"linked, the second first", "a9 b9 c9", three, "b5+ a5+", ""},
	{"linked, the other way", "a9 b9 c9", three, "c5- b5-", ""},
	{"linked at both ends", "a9 b9", "plain a1 b0\nplain b1 a0", "a5+ b5+", ""},
	{"linked, over one crossing", "a9 b9 c9 d9", "cross a1 b0 c1 d0\nplain b1 c0\nend a0\nend d1", "a5+ b5+", "0-1"},
	{"linked, the second over a crossing alone", "a9 b9 c9 d9 e9 f9", "cross c1 d0 e0 f0\nend a0\nplain a1 b0\nplain b1 c0\nend d1\nend e1\nend f1", "a5+ b5+", ""},
	{"linked, a switch beside both, wanted otherwise", "a9 b9 c9 d9 e9 l9 r9 k9", forkedInLine, "a5+ c5+", "0-1 0-2 1-3 2-3"},
	{"linked, a section in common", "z9 o9 p9 q9 x9", "end z0\nswitch p0 z1 o1\nswitch p1 q0 x0\nplain q1 o0\nend x1", "z5+ q5+", "0-1 0-2 1-2"},
}

func TestSitePlanBars(t *testing.T) {
	for _, c := range barsCases {
		wantBars(t, c.what, siteOf(t, netOf(t, c.pieces, c.joints), c.signals, ""), c.bars)
	}
}

func TestSiteLayout(t *testing.T) {
	wantLayoutOf(t, "passing", passing(t), "5: 4>0 0>1 0>2 3>1 3>2 -1>0 -1>1 -1>2 -1>3 -1>4")
	wantLayoutOf(t, "crowded", crowded(), "10: 0>1 0>2 1>3 2>4 3>5 6>5 6>4 6>7 8>9 7>8 -1>0 -1>1 -1>2 -1>3 -1>4 -1>5 -1>6 -1>7 -1>8 -1>9")
	wantLayoutOf(t, "a piece alone", onSite(lone()), "1: -1>0")
	for _, c := range []struct{ what, pieces, joints, want string }{
		{"a plain joint", "a9 b9", "end a0\nplain a1 b0\nend b1", "2: 0>1 -1>0 -1>1"},
		{"a plain joint, the other way round", "a9 b9", "end a0\nplain b0 a1\nend b1", "2: 1>0 -1>0 -1>1"},
		{"a switch", "a9 b9 c9", "switch b0 c0 a0\nend a1\nend b1\nend c1", "3: 1>2 1>0 -1>0 -1>1 -1>2"},
		{"a switch with one piece at both its others", "a9 b9", "switch b0 a1 a0\nend b1", "2: 1>0 1>0 -1>0 -1>1"},
		{"a crossing", "a9 b9 c9 d9", "cross d0 b0 a0 c0\nend a1\nend b1\nend c1\nend d1", "4: 3>1 0>2 -1>0 -1>1 -1>2 -1>3"},
		{"a crossing, twice between two pieces", "a9 b9", "cross a0 b0 b1 a1", "2: 0>1 1>0 -1>0 -1>1"},
		{"a ring of two", "a9 b9", "plain a1 b0\nplain b1 a0", "2: 0>1 1>0 -1>0 -1>1"},
		{"a ring of two, joined otherwise", "a9 b9", "plain b1 a0\nplain a1 b0", "2: 1>0 0>1 -1>0 -1>1"},
		{"all kinds, in the order of the joints", "a9 b9 c9 d9 e9 f9", "cross f0 e1 a1 b0\nend a0\nplain e0 d1\nswitch c0 d0 b1\nend c1\nend f1", "6: 5>4 0>1 4>3 2>3 2>1 -1>0 -1>1 -1>2 -1>3 -1>4 -1>5"},
	} {
		wantLayoutOf(t, c.what, onSite(netOf(t, c.pieces, c.joints)), c.want)
	}
}

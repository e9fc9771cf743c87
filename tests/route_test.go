package tests

import (
	"strconv"
	"testing"

	"loop.example/signalbox/impl"
)

func TestRoutesAlongALine(t *testing.T) {
	n := netOf(t, "a100 b60 c50", `
		end a0
		plain a1 b0
		plain b1 c1
		end c0`)
	signals := signalsOf(t, n, "a20+ a70+ a70- a30- b10+ c40- c10+ b50-")
	wantRoutes(t, "a line whose last piece looks back", n, signals, 25, `
		0>1 a+ | a20-70 | over a70-95
		1>4 a+ b+ | a70-100 b0-10 | over b10-35
		2>3 a- | a30-70 | over a5-30
		3>-1 a- | a0-30
		4>5 b+ c- | b10-60 c40-50 | over c15-40
		5>-1 c- | c0-40
		6>7 c+ b- | c10-50 b50-60 | over b25-50
		7>2 b- a- | b0-50 a70-100 | over a45-70`)
	wantRoutes(t, "no signals", n, nil, 25, "")
	wantRoutes(t, "the last signal alone", n, signals[7:], 25, "0>-1 b- a- | b0-50 a0-100")
	wantRoutes(t, "over all pieces", n, signals[:1], 25, "0>-1 a+ b+ c- | a20-100 b0-60 c0-50")
}

func TestRoutesOfOnePiece(t *testing.T) {
	n := netOf(t, "a100", "end a0\nend a1")
	wantRoutes(t, "signals in no order", n, signalsOf(t, n, "a60+ a20+ a80+ a40+ a60- a20- a80- a40-"), 10, `
		0>2 a+ | a60-80 | over a80-90
		1>3 a+ | a20-40 | over a40-50
		2>-1 a+ | a80-100
		3>0 a+ | a40-60 | over a60-70
		4>7 a- | a40-60 | over a30-40
		5>-1 a- | a0-20
		6>4 a- | a60-80 | over a50-60
		7>5 a- | a20-40 | over a10-20`)
	wantRoutes(t, "at the ends", n, signalsOf(t, n, "a1+ a99+ a99- a1-"), 10, `
		0>1 a+ | a1-99 | over a99-100
		1>-1 a+ | a99-100
		2>3 a- | a1-99 | over a0-1
		3>-1 a- | a0-1`)
	wantRoutes(t, "one that looks the other way ends none", n, signalsOf(t, n, "a50+ a60- a40-"), 0, `
		0>-1 a+ | a50-100
		1>2 a- | a40-60
		2>-1 a- | a0-40`)
}

func TestRoutesOverASwitch(t *testing.T) {
	n := netOf(t, "a10 b10 c10", `
		end a0
		switch a1 b1 c0
		end b0
		end c1`)
	wantRoutes(t, "from its tip and from both other ends", n, signalsOf(t, n, "a5+ b5+ c5-"), 0, `
		0>-1 a+ b- | a5-10 b0-10 | lies 1=1 | flanks 1:signal2
		0>-1 a+ c+ | a5-10 c0-10 | lies 1=2 | flanks 1:signal1
		1>-1 b+ a- | b5-10 a0-10 | lies 1=1 | flanks 1:signal2
		2>-1 c- a- | c0-5 a0-10 | lies 1=2 | flanks 1:signal1`)
	wantRoutes(t, "signals end them behind it", n, signalsOf(t, n, "a5+ b4- c6+ a8- b9+ c1-"), 100, `
		0>1 a+ b- | a5-10 b4-10 | lies 1=1 | over b0-4 | flanks 1:signal5
		0>2 a+ c+ | a5-10 c0-6 | lies 1=2 | over c6-10 | flanks 1:signal4
		1>-1 b- | b0-4
		2>-1 c+ | c6-10
		3>-1 a- | a0-8
		4>3 b+ a- | b9-10 a8-10 | lies 1=1 | over a0-8 | flanks 1:signal5
		5>3 c- a- | c0-1 a8-10 | lies 1=2 | over a0-8 | flanks 1:signal4`)
}

func TestRoutesLeftFirst(t *testing.T) {
	n := netOf(t, "a10 b10 c10 d10 e10 f10 g10", `
		end a0
		switch a1 b0 c0
		switch b1 d0 e0
		switch c1 f0 g0
		end d1
		end e1
		end f1
		end g1`)
	wantRoutes(t, "a tree", n, signalsOf(t, n, "a5+"), 0, `
		0>-1 a+ b+ d+ | a5-10 b0-10 d0-10 | lies 1=1 2=1 | flanks 1:buffer6 1:buffer7 2:buffer5
		0>-1 a+ b+ e+ | a5-10 b0-10 e0-10 | lies 1=1 2=2 | flanks 1:buffer6 1:buffer7 2:buffer4
		0>-1 a+ c+ f+ | a5-10 c0-10 f0-10 | lies 1=2 3=1 | flanks 1:buffer4 1:buffer5 3:buffer7
		0>-1 a+ c+ g+ | a5-10 c0-10 g0-10 | lies 1=2 3=2 | flanks 1:buffer4 1:buffer5 3:buffer6`)
	wantRoutes(t, "from the leaves, as the signals stand", n, signalsOf(t, n, "g5- d5-"), 0, `
		0>-1 g- c- a- | g0-5 c0-10 a0-10 | lies 3=2 1=2 | flanks 3:buffer6 1:signal1 1:buffer5
		1>-1 d- b- a- | d0-5 b0-10 a0-10 | lies 2=1 1=1 | flanks 2:buffer5 1:buffer6 1:signal0`)
}

func TestRoutesNeedASwitchOneWay(t *testing.T) {
	n := netOf(t, "a10 b10", `
		end a0
		switch a1 b0 b1`)
	wantRoutes(t, "round and into the switch again", n, signalsOf(t, n, "a5+"), 0, "")
	wantRoutes(t, "a signal ends the one ahead of that", n, signalsOf(t, n, "a5+ b5+"), 100, `
		0>1 a+ b+ | a5-10 b0-5 | lies 1=1 | over b5-10 | flanks 1:signal1
		1>-1 b+ a- | b5-10 a0-10 | lies 1=2 | flanks 1:open1`)
	wantRoutes(t, "and the other one", n, signalsOf(t, n, "b5- a5+"), 100, `
		0>-1 b- a- | b0-5 a0-10 | lies 1=1 | flanks 1:open1
		1>0 a+ b- | a5-10 b5-10 | lies 1=2 | over b0-5 | flanks 1:signal0`)
	wantRoutes(t, "back to the piece of its own signal, the other way", n, signalsOf(t, n, "a5+ a5-"), 100, "1>-1 a- | a0-5")
}

func TestRoutesBackToTheirSignal(t *testing.T) {
	n := netOf(t, "a10 b10", `
		plain a1 b0
		plain b1 a0`)
	wantRoutes(t, "to it", n, signalsOf(t, n, "a6+"), 13, "0>0 a+ b+ a+ | a6-10 b0-10 a0-6 | over a6-10 b0-9")
	wantRoutes(t, "to it, the other way", n, signalsOf(t, n, "a6-"), 13, "0>0 a- b- a- | a0-6 b0-10 a6-10 | over a0-6 b3-10")
	wantRoutes(t, "to one ahead of it", n, signalsOf(t, n, "a6+ a3+ a5-"), 13, `
		0>1 a+ b+ a+ | a6-10 b0-10 a0-3 | over a3-10 b0-6
		1>0 a+ | a3-6 | over a6-10 b0-9
		2>2 a- b- a- | a0-5 b0-10 a5-10 | over a0-5 b2-10`)
	n = netOf(t, "a20 b10 c10", `
		switch a1 b0 c0
		plain b1 a0
		end c1`)
	wantRoutes(t, "round over a switch", n, signalsOf(t, n, "a5+"), 30, `
		0>0 a+ b+ a+ | a5-20 b0-10 a0-5 | lies 0=1 | over a5-20 | flanks 0:buffer2
		0>-1 a+ c+ | a5-20 c0-10 | lies 0=2 | flanks 0:buffer2`)
	wantRoutes(t, "round over a switch, the other way", n, signalsOf(t, n, "a5- c5-"), 30, `
		0>0 a- b- a- | a0-5 b0-10 a5-20 | lies 0=1 | over a0-5 b0-10 | flanks 0:signal1
		1>0 c- a- | c0-5 a5-20 | lies 0=2 | over a0-5 b0-10 | flanks 0:signal0`)
	n = netOf(t, "a9", "plain a0 a1")
	wantRoutes(t, "a piece alone", n, signalsOf(t, n, "a4+ a4-"), 9, `
		0>0 a+ a+ | a4-9 a0-4 | over a4-9 a0-4
		1>1 a- a- | a0-4 a4-9 | over a0-4 a4-9`)
}

func TestRoutesOverCrossings(t *testing.T) {
	n := netOf(t, "a10 b10 c10 d10", `
		cross a1 b0 c1 d0
		end a0
		end b1
		end c0
		end d1`)
	wantRoutes(t, "from each of its ends", n, signalsOf(t, n, "a5+ b5- c5+ d5-"), 0, `
		0>-1 a+ b+ | a5-10 b0-10 | crosses 0
		1>-1 b- a- | b0-5 a0-10 | crosses 0
		2>-1 c+ d+ | c5-10 d0-10 | crosses 0
		3>-1 d- c- | d0-5 c0-10 | crosses 0`)
	n = netOf(t, "a10 b10 c10", `
		end a0
		cross a1 b0 b1 c0
		end c1`)
	wantRoutes(t, "twice", n, signalsOf(t, n, "a5+ c5-"), 0, `
		0>-1 a+ b+ c+ | a5-10 b0-10 c0-10 | crosses 1 1
		1>-1 c- b- a- | c0-5 b0-10 a0-10 | crosses 1 1`)
	n = netOf(t, "a10 b10 c10 d10 e10", `
		cross a1 b0 c0 d1
		end a0
		cross e0 d0 c1 b1
		end e1`)
	wantRoutes(t, "two, one of them twice and one between", n, signalsOf(t, n, "a5+ e5-"), 0, `
		0>-1 a+ b+ c- d- e+ | a5-10 b0-10 c0-10 d0-10 e0-10 | crosses 0 2 0 2
		1>-1 e- d+ c+ b- a- | e0-5 d0-10 c0-10 b0-10 a0-10 | crosses 2 0 2 0`)
	n = yard()
	wantRoutes(t, "and switches", n, signalsOf(t, n, "a50+"), 0, `
		0>-1 a+ b+ d+ f+ g+ h+ i+ k+ | a50-100 b0-100 d0-100 f0-100 g0-100 h0-100 i0-100 k0-100 | lies 1=1 4=1 | crosses 2 5 5 | flanks 1:switch4=1 4:switch1=1
		0>-1 a+ c+ e+ g+ h+ i+ k+ | a50-100 c0-100 e0-100 g0-100 h0-100 i0-100 k0-100 | lies 1=2 4=2 | crosses 2 5 5 | flanks 1:switch4=2 4:switch1=2`)
}

func TestRoutesOverHowFar(t *testing.T) {
	n := netOf(t, "a10 b10 c10", `
		end a0
		plain b0 a1
		plain b1 c1
		end c0`)
	signals := signalsOf(t, n, "a2+ a6+")
	for _, c := range []struct {
		over int
		want string
	}{
		{0, ""}, {1, " | over a6-7"}, {3, " | over a6-9"}, {4, " | over a6-10"}, {5, " | over a6-10 b0-1"},
		{13, " | over a6-10 b0-9"}, {14, " | over a6-10 b0-10"}, {15, " | over a6-10 b0-10 c9-10"},
		{23, " | over a6-10 b0-10 c1-10"}, {24, " | over a6-10 b0-10 c0-10"}, {25, " | over a6-10 b0-10 c0-10"},
		{100000, " | over a6-10 b0-10 c0-10"},
	} {
		wantRoutes(t, "over "+strconv.Itoa(c.over), n, signals, c.over, "0>1 a+ | a2-6"+c.want+"\n1>-1 a+ b+ c- | a6-10 b0-10 c0-10")
	}
	n = netOf(t, "a10 b10", "plain a1 b1\nplain b0 a0")
	for _, c := range []struct {
		over int
		want string
	}{
		{0, ""}, {6, " | over a0-6"}, {7, " | over a0-6 b0-1"}, {16, " | over a0-6 b0-10"}, {20, " | over a0-6 b0-10 a6-10"},
		{21, " | over a0-6 b0-10 a5-10"}, {26, " | over a0-6 b0-10 a0-10"}, {27, " | over a0-6 b0-10 a0-10 b0-1"}, {47, " | over a0-6 b0-10 a0-10 b0-10 a0-10 b0-1"},
	} {
		wantRoutes(t, "round, over "+strconv.Itoa(c.over), n, signalsOf(t, n, "a6-"), c.over, "0>0 a- b+ a- | a0-6 b0-10 a6-10"+c.want)
	}
}

func TestRoutesOverEndsAtJoints(t *testing.T) {
	for _, c := range []struct{ what, joints string }{
		{"a buffer", "end a0\nend a1\nend b0\nend c0\nplain b1 c1"},
		{"the tip of a switch", "end a0\nswitch a1 b0 c0\nend b1\nend c1"},
		{"the left end of a switch", "end a0\nswitch b0 a1 c0\nend b1\nend c1"},
		{"the right end of a switch", "end a0\nswitch b0 c0 a1\nend b1\nend c1"},
		{"a crossing", "end a0\ncross a1 b0 c0 c1\nend b1"},
		{"the end of a crossing", "end a0\ncross c0 c1 b0 a1\nend b1"},
	} {
		n := netOf(t, "a10 b10 c10", c.joints)
		for over, want := range map[int]string{0: "", 3: "a7-10", 2: "a7-9", 4: "a7-10", 100: "a7-10", 100000: "a7-10"} {
			got := impl.Routes(n, signalsOf(t, n, "a3+ a7+"), over)
			if len(got) == 0 || partsText(n, got[0].Over) != want {
				t.Errorf("%s, over %d: %s", c.what, over, routesText(n, got))
			}
		}
	}
	n := netOf(t, "a10 b10 c10 d10 e10", `
		end a0
		plain a1 b0
		plain c1 b1
		switch c0 d0 e0
		end d1
		end e1`)
	wantRoutes(t, "over plain joints to a switch", n, signalsOf(t, n, "a3+ a7+ d5+ e5+"), 50, `
		0>1 a+ | a3-7 | over a7-10 b0-10 c0-10
		1>2 a+ b+ c- d+ | a7-10 b0-10 c0-10 d0-5 | lies 3=1 | over d5-10 | flanks 3:buffer5
		1>3 a+ b+ c- e+ | a7-10 b0-10 c0-10 e0-5 | lies 3=2 | over e5-10 | flanks 3:buffer4
		2>-1 d+ | d5-10
		3>-1 e+ | e5-10`)
	wantRoutes(t, "nothing behind a buffer", n, signalsOf(t, n, "b5-"), 50, "0>-1 b- a- | b0-5 a0-10")
}

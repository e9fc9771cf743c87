package tests

import (
	"testing"

	"loop.example/signalbox/impl"
)

// wantFlanks asks for the flanks of the first route from the first signal.
func wantFlanks(t *testing.T, what string, n impl.Net, signals, want string) {
	t.Helper()
	got := impl.Routes(n, signalsOf(t, n, signals), 0)
	if len(got) == 0 || flanksText(got[0].Flanks) != want {
		t.Errorf("%s: the flanks of the first of these are not %s:\n%s", what, want, routesText(n, got))
	}
}

func TestFlankSignals(t *testing.T) {
	n := netOf(t, "a9 b9 c9 d9", `
		end a0
		switch a1 b0 c0
		end b1
		plain c1 d1
		end d0`)
	wantFlanks(t, "one", n, "a5+ c4-", "1:signal1")
	wantFlanks(t, "the nearest one", n, "a5+ c4- c2- c7-", "1:signal2")
	wantFlanks(t, "the nearest one, the last in the list", n, "a5+ c7- c4- c2-", "1:signal3")
	wantFlanks(t, "the nearest one, the first in the list", n, "a5+ c2- c4- c7-", "1:signal1")
	wantFlanks(t, "not one that looks away", n, "a5+ c4+ c7- c2+", "1:signal2")
	wantFlanks(t, "none that looks to the switch", n, "a5+ c4+ c2+", "1:buffer4")
	wantFlanks(t, "behind a plain joint", n, "a5+ c4+ d4+ d7+ d8- d1-", "1:signal3")
	wantFlanks(t, "ahead of the one behind a plain joint", n, "a5+ d4+ c8-", "1:signal2")
	wantFlanks(t, "not of the piece on which the route goes", n, "a5+ b3-", "1:buffer4")
	n = netOf(t, "a9 b9 c9", `
		end a0
		switch a1 c1 b0
		end b1
		end c0`)
	wantFlanks(t, "of the left end", n, "b5- c4+ c7+ c2+ c8-", "1:signal2")
	wantFlanks(t, "of the left end, at the places next to the ends", n, "b5- c1+ c8+", "1:signal2")
	wantFlanks(t, "the one next to the far end", n, "b5- c1+", "1:signal1")
}

func TestFlankBuffersAndSwitches(t *testing.T) {
	n := netOf(t, "a9 b9 c9 d9 e9 f9", `
		end a0
		switch a1 b0 c0
		switch d0 e1 c1
		end b1
		end d1
		plain e0 f0
		end f1`)
	wantFlanks(t, "a switch at its right end", n, "a5+", "1:switch2=1")
	wantFlanks(t, "a buffer behind a plain joint", n, "c5+", "2:buffer6")
	n = netOf(t, "a9 b9 c9 d9 e9 f9", `
		end a0
		switch a1 b0 c0
		plain c1 e0
		switch d0 e1 f1
		end b1
		end d1
		end f0`)
	wantFlanks(t, "a switch at its left end, behind a plain joint", n, "a5+", "1:switch3=2")
	wantFlanks(t, "a switch that the route needs otherwise", n, "f5+ e5+", "3:signal1")
}

func TestFlankOpen(t *testing.T) {
	n := netOf(t, "a9 b9 c9 d9", `
		end a0
		switch a1 b0 c0
		switch b1 c1 d0
		end d1`)
	wantRoutes(t, "the route's own", n, signalsOf(t, n, "c5+"), 0, "0>-1 c+ b- a- | c5-9 b0-9 a0-9 | lies 2=1 1=1 | flanks 2:buffer3 1:open2")
	wantRoutes(t, "not the route's own, or lying otherwise", n, signalsOf(t, n, "a5+ d5-"), 0, `
		0>-1 a+ b+ d+ | a5-9 b0-9 d0-9 | lies 1=1 2=2 | flanks 1:switch2=2 2:switch1=1
		1>-1 d- b- a- | d0-5 b0-9 a0-9 | lies 2=2 1=1 | flanks 2:switch1=1 1:switch2=2`)
	n = netOf(t, "a9 b9 c9 d9", `
		end a0
		switch a1 b0 c0
		switch b1 d0 c1
		end d1`)
	wantRoutes(t, "the route's own, at its right end", n, signalsOf(t, n, "c5+"), 0, "0>-1 c+ b- a- | c5-9 b0-9 a0-9 | lies 2=2 1=1 | flanks 2:buffer3 1:open2")
}

func TestFlankCrossings(t *testing.T) {
	n := netOf(t, "a9 b9 c9 d9 e9 f9", `
		end a0
		switch a1 b0 c0
		cross d1 e0 f1 c1
		end b1
		end d0
		end e1
		end f0`)
	wantFlanks(t, "from the fourth end", n, "a5+", "1:buffer6")
	wantFlanks(t, "a signal behind it", n, "a5+ d4+ e4- f3+ f7+", "1:signal4")
	n = netOf(t, "a9 b9 c9 d9", `
		end a0
		switch a1 b0 c0
		cross c1 d0 d1 b1`)
	wantFlanks(t, "twice over it, and into the switch where the route needs it", n, "b5-", "1:open1")
}

func TestFlankTips(t *testing.T) {
	n := netOf(t, "a9 b9 c9 d9 e9 f9 g9", `
		end a0
		switch a1 b0 c0
		switch c1 d0 e0
		switch d1 f0 g0
		end b1
		end g1
		end f1
		end e1`)
	wantFlanks(t, "all of the left one ahead of the right one", n, "a5+", "1:buffer6 1:buffer5 1:buffer7")
	wantFlanks(t, "a signal ends one alone", n, "a5+ d5-", "1:signal1 1:buffer7")
	wantFlanks(t, "a signal of each", n, "a5+ e5- g5- f5-", "1:signal3 1:signal2 1:signal1")
	n = netOf(t, "a9 b9 c9 d9", `
		end a0
		switch a1 b0 c0
		end b1
		switch c1 d0 d1`)
	wantFlanks(t, "a tip whose other ends are joined", n, "a5+", "1:switch3=1 1:switch3=2")
}

func TestFlankComesRound(t *testing.T) {
	n := netOf(t, "a9 b9 c9", `
		switch a1 b0 c0
		plain b1 a0
		end c1`)
	wantRoutes(t, "to where it was looked from, and on beside it", n, signalsOf(t, n, "a5+"), 0, `
		0>0 a+ b+ a+ | a5-9 b0-9 a0-5 | lies 0=1 | flanks 0:buffer2
		0>-1 a+ c+ | a5-9 c0-9 | lies 0=2 | flanks 0:buffer2`)
	n = netOf(t, "a9 b9 c9", `
		switch a1 c0 b0
		plain b1 a0
		end c1`)
	wantRoutes(t, "from the right end", n, signalsOf(t, n, "a5+"), 0, `
		0>-1 a+ c+ | a5-9 c0-9 | lies 0=1 | flanks 0:buffer2
		0>0 a+ b+ a+ | a5-9 b0-9 a0-5 | lies 0=2 | flanks 0:buffer2`)
	n = netOf(t, "a9 b9", `
		switch a1 b0 a0
		end b1`)
	wantRoutes(t, "the other end of the piece itself", n, signalsOf(t, n, "b5- a5-"), 0, `
		0>1 b- a- | b0-5 a5-9 | lies 0=1 | flanks 0:signal1
		1>1 a- a- | a0-5 a5-9 | lies 0=2 | flanks 0:signal0`)
	wantRoutes(t, "with no signal there", n, signalsOf(t, n, "a5+"), 0, `
		0>-1 a+ b+ | a5-9 b0-9 | lies 0=1 | flanks 0:buffer1
		0>0 a+ a+ | a5-9 a0-5 | lies 0=2 | flanks 0:buffer1`)
}

func TestFlankLooksAnewForEachSwitch(t *testing.T) {
	n := netOf(t, "a9 b9 c9 d9", `
		switch a1 b0 c0
		switch d0 b1 a0
		end c1
		end d1`)
	wantRoutes(t, "from one end for two switches", n, signalsOf(t, n, "a5+"), 0, `
		0>-1 a+ b+ d+ | a5-9 b0-9 d0-9 | lies 0=1 1=1 | flanks 0:buffer2 1:open1 1:buffer2
		0>-1 a+ c+ | a5-9 c0-9 | lies 0=2 | flanks 0:switch1=2`)
}

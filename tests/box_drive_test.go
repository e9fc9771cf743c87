package tests

import (
	"strconv"
	"strings"
	"testing"

	"loop.example/signalbox/impl"
)

func wantDrive(t *testing.T, what string, s impl.Site, script [][]impl.Happen, many int) []impl.Shot {
	t.Helper()
	shots := impl.Drive(s, script)
	if len(shots) != many {
		t.Errorf("%s: %d shots, not %d", what, len(shots), many)
	}
	b := impl.Start(s)
	for i, x := range shots {
		want := impl.Tick(s, b, script[i])
		if shotText(s.Net, x) != shotText(s.Net, want) {
			t.Fatalf("%s, tick %d: the shot is\n%s\nnot\n%s", what, i, shotText(s.Net, x), shotText(s.Net, want))
		}
		if x.Ok != (i < many-1 || len(script[i]) <= 100) {
			t.Errorf("%s, tick %d: Ok is %v", what, i, x.Ok)
		}
		b = x.Box
	}
	return shots
}

func TestDrives(t *testing.T) {
	s := crossover(t)
	wantDrive(t, "no tick", s, nil, 0)
	wantDrive(t, "an empty script", s, [][]impl.Happen{}, 0)
	wantDrive(t, "one tick", s, [][]impl.Happen{nil}, 1)
	wantDrive(t, "one tick in which something happens", s, [][]impl.Happen{listOf(t, "ask 0, ask 3, speed 0 3, speed 1 2")}, 1)
	script := make([][]impl.Happen, 400)
	script[0] = listOf(t, "ask 0, ask 3, speed 0 3, speed 1 2")
	script[20] = listOf(t, "turn 0, turn 1, ghost 3 1")
	script[399] = listOf(t, "speed 0 200")
	wantDrive(t, "399 ticks", s, script[:399], 399)
	wantDrive(t, "400 ticks", s, script, 400)
	wantDrive(t, "401 ticks", s, append(script, nil), 0)
	wantDrive(t, "many ticks", s, make([][]impl.Happen, 5000), 0)
}

// A list of more than 100 things ends the drive: its shot, that is not Ok, is the last one.
func TestDrivesUpToOneThatIsNotOk(t *testing.T) {
	s := crossover(t)
	long := func(many int) []impl.Happen { return make([]impl.Happen, many) }
	first := listOf(t, "ask 0, speed 0 3")
	for _, c := range []struct {
		what   string
		script [][]impl.Happen
		many   int
	}{
		{"at first", [][]impl.Happen{long(101), first, nil}, 1},
		{"in the midst", [][]impl.Happen{first, nil, long(101), nil, nil}, 3},
		{"at last", [][]impl.Happen{first, nil, long(101)}, 3},
		{"twice", [][]impl.Happen{first, long(200), long(101), nil}, 2},
		{"as many as may", [][]impl.Happen{first, long(100), long(100), nil}, 4},
	} {
		shots := wantDrive(t, c.what, s, c.script, c.many)
		last := shots[len(shots)-1]
		if c.what != "as many as may" && shotText(s.Net, last) != shotText(s.Net, impl.Shot{}) {
			t.Errorf("%s: the last shot is\n%s", c.what, shotText(s.Net, last))
		}
	}
}

func TestDrivesOfWrongSites(t *testing.T) {
	for _, spoil := range siteSpoils() {
		if got := impl.Drive(spoiled(spoil.do), make([][]impl.Happen, 3)); len(got) != 0 {
			t.Errorf("%s: %d shots", spoil.what, len(got))
		}
	}
	if got := impl.Drive(fullStation(), make([][]impl.Happen, 3)); len(got) != 3 {
		t.Errorf("a right one: %d shots", len(got))
	}
	if got := impl.Drive(impl.Site{}, [][]impl.Happen{nil}); len(got) != 0 {
		t.Errorf("no site: %d shots", len(got))
	}
}

func wantBoxShown(t *testing.T, what string, s impl.Site, b impl.Box, want string) {
	t.Helper()
	if got := impl.Shown(s, b); got != lined(want)+"\n" {
		t.Errorf("%s: Shown is\n%s\nnot\n%s", what, got, lined(want))
	}
	wantSlowBox(t, slowWorldOf(s), s, b)
}

func TestBoxShown(t *testing.T) {
	s := crossover(t)
	wantBoxShown(t, "at first", s, impl.Start(s), `
		a# A11-15
		b.
		c.
		d.
		e.
		f# B10-14
		x.
		s0 stop
		s1 stop
		s2 stop
		s3 stop`)
	wantBoxShown(t, "a way has pieces that are free", s, boxBehind(t, s, "ask 0, ask 3"), `
		a# A11-15
		b=
		c=
		d=
		e=
		f# B10-14
		x.
		s0 slow
		s1 stop
		s2 slow
		s3 stop`)
	wantBoxShown(t, "one that is free and one that is not", s, boxBehind(t, s, "ask 0, ghost 1 1"), `
		a# A11-15
		b=
		c#
		d.
		e.
		f# B10-14
		x.
		s0 stop
		s1 stop
		s2 stop
		s3 stop`)
	wantBoxShown(t, "each sign", s, boxBehind(t, s, "ask 0, reset 2, dead 4, lamp 0 0, lamp 2 0"), `
		a# A11-15
		b=
		c~
		d.
		e!
		f# B10-14
		x!
		s0 dark
		s1 stop
		s2 dark
		s3 stop`)
	wantBoxShown(t, "parts over two", s, boxBehind(t, s, "ask 0, ask 3, speed 0 27, speed 1 32"), `
		a.
		b# A18-20
		c# A0-2
		d# B18-20
		e# B0-2
		f.
		x.
		s0 stop
		s1 stop
		s2 stop
		s3 stop`)
	wantBoxShown(t, "a way that has let go of a piece, and one that has not", s, boxBehind(t, s, "ask 0, ask 3, speed 0 27, speed 1 27", "speed 1 0"), `
		a.
		b.
		c# A16-20
		d=
		e# B3-7
		f.
		x.
		s0 stop
		s1 stop
		s2 stop
		s3 stop`)
	wantBoxShown(t, "no signals, no trains", onSite(lone()), impl.Start(onSite(lone())), "a.")
}

func TestBoxShownWords(t *testing.T) {
	s := steps(t, 6)
	b := boxBehind(t, s, "ask 4, ask 3, ask 2, ask 1")
	lines := func(b impl.Box) string {
		all := strings.Split(impl.Shown(s, b), "\n")
		return strings.Join(all[6:], ", ")
	}
	if got := lines(b); got != "s0 stop, s1 free, s2 free, s3 near, s4 slow, " {
		t.Errorf("a line of signals: %s", got)
	}
	b.Works[0], b.Works[3] = lampsWithout("0"), lampsWithout("2")
	if got := lines(b); got != "s0 dark, s1 free, s2 near, s3 slow, s4 slow, " {
		t.Errorf("with broken lamps: %s", got)
	}
	b.Works[4] = lampsWithout("0123")
	if got := lines(b); got != "s0 dark, s1 near, s2 slow, s3 stop, s4 dark, " {
		t.Errorf("with a dark one: %s", got)
	}
	wantSlowBox(t, slowWorldOf(s), s, b)
}

// Trains by letter, in their order; several on one piece one behind the other.
func TestBoxShownTrains(t *testing.T) {
	s := beside(6)
	want := ""
	for p := range 6 {
		long := strconv.Itoa(60 - 20 - p)
		want += "p" + strconv.Itoa(p) + "# " + string(rune('A'+p)) + long + "-60\n"
	}
	wantBoxShown(t, "six trains", s, impl.Start(s), want)
	s = threeTrains(t)
	b := impl.Start(s)
	b.Trains[0] = trainOf(t, s.Net, "c2+ 5 b+")
	b.Trains[2] = trainOf(t, s.Net, "a18- 5 b-")
	wantBoxShown(t, "on one piece", s, b, "a# C18-20\nb# A17-20 B5-10 C0-3\nc# A0-2")
	b.Trains[1] = trainOf(t, s.Net, "b0+ 5 a+")
	wantBoxShown(t, "a front where its piece begins", s, b, "a# B15-20 C18-20\nb# A17-20 C0-3\nc# A0-2")
}

package tests

import (
	"reflect"
	"strconv"
	"testing"

	"loop.example/signalbox/impl"
)

func wantSignals(t *testing.T, what string, n impl.Net, signals []impl.Signal, want impl.Fault) {
	t.Helper()
	if got := impl.SignalsOk(n, signals); got != want {
		t.Errorf("%s: SignalsOk is %v, not %v", what, got, want)
	}
}

// posts are signals of the yard: two at one place that look both ways, two as far along on two pieces, two of one piece.
func posts() []impl.Signal {
	return []impl.Signal{
		{Name: "s0", Piece: 0, At: 50, Way: 1},
		{Name: "s1", Piece: 0, At: 50, Way: -1},
		{Name: "s2", Piece: 1, At: 50, Way: 1},
		{Name: "s3", Piece: 9, At: 1, Way: -1},
		{Name: "s4", Piece: 9, At: 99, Way: -1},
	}
}

// manyPosts are so many right signals of a piece that is long enough.
func manyPosts(count int) []impl.Signal {
	var out []impl.Signal
	for i := range count {
		out = append(out, impl.Signal{Name: "s" + strconv.Itoa(i), Piece: i % 2, At: 1 + i/2, Way: 1})
	}
	return out
}

func TestSignalsRight(t *testing.T) {
	wantSignals(t, "none", yard(), nil, impl.Fault{})
	wantSignals(t, "an empty list", yard(), []impl.Signal{}, impl.Fault{})
	wantSignals(t, "posts", yard(), posts(), impl.Fault{})
	s := posts()
	s[0].Name, s[1].Name = "a", "w"
	wantSignals(t, "names of a piece and of a joint", yard(), s, impl.Fault{})
}

func TestSignalsNeedANet(t *testing.T) {
	wantSignals(t, "no net", impl.Net{}, nil, fault(1, 0))
	for _, a := range netSpoils() {
		n := yard()
		a.do(&n)
		wantSignals(t, a.what, n, posts(), fault(1, 0))
		wantSignals(t, a.what+", no signals", n, nil, fault(1, 0))
		wantSignals(t, a.what+", many signals", n, manyPosts(impl.MaxSignals+1), fault(1, 0))
	}
}

func TestSignalsHowMany(t *testing.T) {
	wantSignals(t, "MaxSignals", yard(), manyPosts(impl.MaxSignals), impl.Fault{})
	wantSignals(t, "one more", yard(), manyPosts(impl.MaxSignals+1), fault(2, 0))
	wantSignals(t, "many", yard(), manyPosts(5000), fault(2, 0))
	wantSignals(t, "MaxSignals that are none", yard(), make([]impl.Signal, impl.MaxSignals), fault(3, 0))
	wantSignals(t, "one more that are none", yard(), make([]impl.Signal, impl.MaxSignals+1), fault(2, 0))
}

func TestSignalNames(t *testing.T) {
	for at := range posts() {
		for _, name := range goodNames() {
			s := posts()
			s[at].Name = name
			wantSignals(t, "signal "+strconv.Quote(name), yard(), s, impl.Fault{})
		}
		for _, name := range badNames() {
			s := posts()
			s[at].Name = name
			wantSignals(t, "signal "+strconv.Quote(name), yard(), s, fault(3, at))
		}
	}
}

func TestSignalPiecesAndWays(t *testing.T) {
	for at := range posts() {
		for _, piece := range []int{farBelow, -1 << 32, -10, -1, 10, 11, 100, 1 << 32, farAbove} {
			s := posts()
			s[at].Piece = piece
			wantSignals(t, "Piece "+strconv.Itoa(piece), yard(), s, fault(3, at))
		}
		for _, way := range []int{farBelow, -1<<32 - 1, -3, -2, 0, 2, 3, 1<<32 + 1, farAbove} {
			s := posts()
			s[at].Way = way
			wantSignals(t, "Way "+strconv.Itoa(way), yard(), s, fault(3, at))
		}
	}
	for piece := range 10 {
		s := posts()
		s[2].Piece, s[2].At = piece, 77
		wantSignals(t, "Piece "+strconv.Itoa(piece), yard(), s, impl.Fault{})
	}
}

func TestSignalPlaces(t *testing.T) {
	for _, way := range []int{1, -1} {
		for _, long := range []int{2, 3, 100, impl.MaxLen} {
			n := yard()
			n.Pieces[5].Len = long
			for _, at := range []int{1, 1 + (long-1)/2, long - 1} {
				s := posts()
				s[2] = impl.Signal{Name: "s2", Piece: 5, At: at, Way: way}
				wantSignals(t, "At "+strconv.Itoa(at), n, s, impl.Fault{})
			}
			for _, at := range []int{farBelow, -1 << 32, -1, 0, long, long + 1, 1<<32 + 1, farAbove} {
				for _, i := range []int{0, 2, 4} {
					s := posts()
					s[i] = impl.Signal{Name: "q", Piece: 5, At: at, Way: way}
					wantSignals(t, "At "+strconv.Itoa(at), n, s, fault(3, i))
				}
			}
		}
		n := yard()
		n.Pieces[5].Len = 1
		for _, at := range []int{-1, 0, 1, 2} {
			s := posts()
			s[4] = impl.Signal{Name: "q", Piece: 5, At: at, Way: way}
			wantSignals(t, "a piece too short, At "+strconv.Itoa(at), n, s, fault(3, 4))
		}
	}
}

func TestSignalsTwice(t *testing.T) {
	for i := range posts() {
		for k := range i {
			s := posts()
			s[i].Name = s[k].Name
			wantSignals(t, "a Name twice", yard(), s, fault(4, i))
			s = posts()
			s[i].Piece, s[i].At, s[i].Way = s[k].Piece, s[k].At, s[k].Way
			wantSignals(t, "a place twice", yard(), s, fault(4, i))
			s = posts()
			s[i].Piece, s[i].At, s[i].Way = 4, 33, 1
			s[k].Piece, s[k].At, s[k].Way = 4, 33, -1
			wantSignals(t, "a place both ways", yard(), s, impl.Fault{})
			s[k].At, s[k].Way = 34, 1
			wantSignals(t, "one behind the other", yard(), s, impl.Fault{})
			s[k].Piece, s[k].At = 5, 33
			wantSignals(t, "on two pieces", yard(), s, impl.Fault{})
		}
	}
}

type signalSpoil struct {
	what string
	do   func([]impl.Signal)
	want impl.Fault
}

// signalSpoils are faults of which any two may stand together.
func signalSpoils() []signalSpoil {
	return []signalSpoil{
		{"signal 0 has no Way", func(s []impl.Signal) { s[0].Way = 0 }, fault(3, 0)},
		{"signal 1 has a Name that is none", func(s []impl.Signal) { s[1].Name = "S" }, fault(3, 1)},
		{"signal 2 stands at no piece", func(s []impl.Signal) { s[2].Piece = 10 }, fault(3, 2)},
		{"signal 3 stands at the end", func(s []impl.Signal) { s[3].At = 0 }, fault(3, 3)},
		{"signal 4 has no Name", func(s []impl.Signal) { s[4].Name = "" }, fault(3, 4)},
		{"signal 2 has the Name of 0", func(s []impl.Signal) { s[2].Name = s[0].Name }, fault(4, 2)},
		{"signal 3 has the Name of 2", func(s []impl.Signal) { s[3].Name = s[2].Name }, fault(4, 3)},
		{"signal 4 stands where 3 does", func(s []impl.Signal) { s[4].At = s[3].At }, fault(4, 4)},
		{"signal 1 stands as 0 does", func(s []impl.Signal) { s[1].Way = 1 }, fault(4, 1)},
	}
}

func TestSignalsOrderOfFaults(t *testing.T) {
	for i, a := range signalSpoils() {
		s := posts()
		a.do(s)
		wantSignals(t, a.what, yard(), s, a.want)
		long := append(s, manyPosts(impl.MaxSignals)...)
		wantSignals(t, a.what+", many", yard(), long, fault(2, 0))
		for k, b := range signalSpoils() {
			if i == k {
				continue
			}
			s := posts()
			a.do(s)
			b.do(s)
			want := firstOf(a.want, b.want)
			wantSignals(t, a.what+", "+b.what, yard(), s, want)
		}
	}
}

func (d *dice) signals() []impl.Signal {
	s := roomy(manyPosts([]int{0, 1, 5, 60, 61}[d.below(5)]), impl.Signal{Name: "spare"})
	for range d.below(3) {
		if len(s) == 0 {
			break
		}
		x := &s[d.below(len(s))]
		switch d.below(5) {
		case 0:
			x.Name = d.name()
		case 1:
			x.Piece = d.number()
		case 2:
			x.At = d.number()
		case 3:
			x.Way = d.number()
		case 4:
			*x = s[d.below(len(s))]
		}
	}
	return s
}

func TestSignalsAnyArgument(t *testing.T) {
	d := &dice{state: 2}
	codes := map[int]int{}
	for i := range 20000 {
		n, s := d.net(), d.signals()
		net, signals := copyOf(n), roomy(s, impl.Signal{Name: "spare"})
		before := whole(copyOf(net))
		kept := append([]impl.Signal{}, signals[:cap(signals)]...)
		first := impl.SignalsOk(net, signals)
		if !reflect.DeepEqual(whole(net), before) || !reflect.DeepEqual(signals[:cap(signals)], kept) {
			t.Fatalf("case %d: SignalsOk writes into an argument", i)
		}
		if again := impl.SignalsOk(net, signals); again != first {
			t.Fatalf("case %d: SignalsOk is %v, then %v", i, first, again)
		}
		if first.Code < 0 || first.Code > 4 || first.At < 0 || first.Code < 3 && first.At != 0 {
			t.Fatalf("case %d: SignalsOk is %v", i, first)
		}
		codes[first.Code]++
	}
	for code := range 5 {
		if codes[code] == 0 {
			t.Errorf("no signals with code %d were asked about", code)
		}
	}
}

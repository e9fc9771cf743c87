package tests

import (
	"reflect"
	"strconv"
	"testing"

	"loop.example/signalbox/impl"
)

func fault(code, at int) impl.Fault { return impl.Fault{Code: code, At: at} }

func wantNet(t *testing.T, what string, n impl.Net, want impl.Fault) {
	t.Helper()
	if got := impl.NetOk(n); got != want {
		t.Errorf("%s: NetOk is %v, not %v", what, got, want)
	}
}

func TestNetRight(t *testing.T) {
	for what, n := range map[string]impl.Net{"lone": lone(), "ring": ring(), "line": line(7), "scattered": scattered(3, 2), "yard": yard()} {
		wantNet(t, what, n, impl.Fault{})
	}
	n := yard()
	n.Joints[1].Name, n.Joints[2].Name = "a", "b"
	wantNet(t, "joints with the names of pieces", n, impl.Fault{})
	n = line(2)
	n.Joints[0], n.Joints[2] = n.Joints[2], n.Joints[0]
	wantNet(t, "joints in another order", n, impl.Fault{})
}

func TestNetHowMany(t *testing.T) {
	wantNet(t, "no net", impl.Net{}, fault(1, 0))
	wantNet(t, "no pieces", impl.Net{Pieces: []impl.Piece{}, Joints: line(2).Joints}, fault(1, 0))
	wantNet(t, "MaxPieces", line(impl.MaxPieces), impl.Fault{})
	wantNet(t, "a piece more", line(impl.MaxPieces+1), fault(1, 0))
	wantNet(t, "many pieces", line(1000), fault(1, 0))
	wantNet(t, "MaxJoints", scattered(impl.MaxJoints/2, 0), impl.Fault{})
	wantNet(t, "a joint more", scattered(impl.MaxJoints/2, 1), fault(1, 0))
	n := lone()
	n.Joints = nil
	wantNet(t, "no joints", n, fault(5, 0))
	n.Joints = make([]impl.Joint, impl.MaxJoints)
	wantNet(t, "MaxJoints that are none", n, fault(3, 0))
	n.Joints = make([]impl.Joint, impl.MaxJoints+1)
	wantNet(t, "too many that are none", n, fault(1, 0))
}

func TestNetPieceNumbers(t *testing.T) {
	for _, c := range []struct {
		what string
		max  int
		set  func(*impl.Piece, int)
	}{
		{"Len", 10000000, func(p *impl.Piece, x int) { p.Len = x }},
		{"Speed", 10000, func(p *impl.Piece, x int) { p.Speed = x }},
		{"Brake", 1000, func(p *impl.Piece, x int) { p.Brake = x }},
	} {
		for _, at := range []int{0, 3, 9} {
			for _, x := range []int{1, 2, c.max - 1, c.max} {
				n := yard()
				c.set(&n.Pieces[at], x)
				wantNet(t, c.what+" "+strconv.Itoa(x), n, impl.Fault{})
			}
			for _, x := range []int{farBelow, farBelow + 1, -1 << 32, -c.max, -1, 0, c.max + 1, 1<<32 + 1, farAbove - 1, farAbove} {
				n := yard()
				c.set(&n.Pieces[at], x)
				wantNet(t, c.what+" "+strconv.Itoa(x), n, fault(2, at))
			}
		}
	}
}

func TestNetPieceNames(t *testing.T) {
	for _, at := range []int{0, 3, 9} {
		for _, name := range goodNames() {
			n := line(10)
			n.Pieces[at].Name = name
			wantNet(t, "piece "+strconv.Quote(name), n, impl.Fault{})
		}
		for _, name := range badNames() {
			n := line(10)
			n.Pieces[at].Name = name
			wantNet(t, "piece "+strconv.Quote(name), n, fault(2, at))
		}
	}
	for _, c := range [][2]int{{0, 1}, {0, 9}, {3, 5}, {8, 9}} {
		n := yard()
		n.Pieces[c[1]].Name = n.Pieces[c[0]].Name
		wantNet(t, "a piece's name twice", n, fault(2, c[1]))
	}
}

func TestNetJointKinds(t *testing.T) {
	for at := range yard().Joints {
		for _, kind := range []int{farBelow, -1, 0, 5, 6, 1<<32 + 1, farAbove} {
			n := yard()
			n.Joints[at].Kind = kind
			wantNet(t, "Kind "+strconv.Itoa(kind), n, fault(3, at))
		}
		for kind := impl.JEnd; kind <= impl.JCross; kind++ {
			n := yard()
			if n.Joints[at].Kind != kind {
				n.Joints[at].Kind = kind
				wantNet(t, "another Kind "+strconv.Itoa(kind), n, fault(3, at))
			}
		}
	}
}

func TestNetJointEnds(t *testing.T) {
	for at, j := range yard().Joints {
		for count := range 7 {
			n := yard()
			ends := append(append([]impl.End{}, j.Ends...), make([]impl.End, 7)...)[:count]
			n.Joints[at].Ends = ends
			want := fault(3, at)
			if count == len(j.Ends) {
				want = impl.Fault{}
			}
			wantNet(t, "so many ends: "+strconv.Itoa(count), n, want)
		}
		for k := range j.Ends {
			for _, bad := range []impl.End{end(-1, 0), end(10, 0), end(10, 1), end(0, -1), end(0, 2), end(farBelow, 0), end(farAbove, 1), end(0, farBelow), end(9, farAbove), end(-10, -1), end(100, 100)} {
				n := yard()
				n.Joints[at].Ends[k] = bad
				wantNet(t, "an end that there is not", n, fault(3, at))
			}
		}
	}
}

func TestNetJointNames(t *testing.T) {
	for at, j := range yard().Joints {
		named := j.Kind == impl.JSwitch || j.Kind == impl.JCross
		for _, name := range goodNames() {
			if name == "w" || name == "x" || name == "v" || name == "y" {
				continue
			}
			n := yard()
			n.Joints[at].Name = name
			want := fault(4, at)
			if named {
				want = impl.Fault{}
			}
			wantNet(t, "joint "+strconv.Quote(name), n, want)
		}
		for _, name := range badNames() {
			n := yard()
			n.Joints[at].Name = name
			want := fault(4, at)
			if !named && name == "" {
				want = impl.Fault{}
			}
			wantNet(t, "joint "+strconv.Quote(name), n, want)
		}
	}
	for _, c := range [][2]int{{1, 2}, {1, 4}, {2, 4}, {2, 5}, {4, 5}} {
		n := yard()
		n.Joints[c[1]].Name = n.Joints[c[0]].Name
		wantNet(t, "a joint's name twice", n, fault(4, c[1]))
	}
	n := yard()
	n.Joints[1], n.Joints[0] = n.Joints[0], n.Joints[1]
	n.Joints[0].Name = ""
	wantNet(t, "the first joint's name", n, fault(4, 0))
}

func TestNetLooseEnds(t *testing.T) {
	for p := range 10 {
		for side := range 2 {
			n := line(10)
			for j := range n.Joints {
				if n.Joints[j].Ends[0] == end(p, side) && n.Joints[j].Kind == impl.JEnd {
					n.Joints = append(n.Joints[:j], n.Joints[j+1:]...)
					wantNet(t, "a buffer less", n, fault(5, p))
					break
				}
			}
			n = line(10)
			n.Joints = append(n.Joints, buffer(end(p, side)))
			wantNet(t, "a buffer more", n, fault(5, p))
		}
	}
	n := line(10)
	n.Joints[4] = buffer(end(3, 1))
	wantNet(t, "piece 4 begins nowhere", n, fault(5, 4))
	n.Joints[4] = buffer(end(4, 0))
	wantNet(t, "piece 3 ends nowhere", n, fault(5, 3))
	n = yard()
	n.Joints[6].Ends[1] = n.Joints[6].Ends[0]
	wantNet(t, "an end twice in a joint", n, fault(5, 7))
	n = yard()
	n.Joints[1].Ends[2] = n.Joints[1].Ends[1]
	wantNet(t, "an end twice in a switch", n, fault(5, 1))
	n = ring()
	n.Joints[0].Ends[0] = end(0, 1)
	wantNet(t, "an end joined to itself", n, fault(5, 0))
}

type netSpoil struct {
	what string
	do   func(*impl.Net)
	want impl.Fault
}

// netSpoils are faults of which any two may stand together; what each one brings beside its own comes behind its own.
func netSpoils() []netSpoil {
	return []netSpoil{
		{"many pieces", func(n *impl.Net) { n.Pieces = append(n.Pieces, make([]impl.Piece, impl.MaxPieces)...) }, fault(1, 0)},
		{"many joints", func(n *impl.Net) { n.Joints = append(n.Joints, make([]impl.Joint, impl.MaxJoints)...) }, fault(1, 0)},
		{"piece 0 has no Len", func(n *impl.Net) { n.Pieces[0].Len = 0 }, fault(2, 0)},
		{"piece 4 has no Speed", func(n *impl.Net) { n.Pieces[4].Speed = 0 }, fault(2, 4)},
		{"piece 6 has the Name of piece 5", func(n *impl.Net) { n.Pieces[6].Name = n.Pieces[5].Name }, fault(2, 6)},
		{"piece 7 brakes below 0", func(n *impl.Net) { n.Pieces[7].Brake = -1 }, fault(2, 7)},
		{"piece 9 has no Name", func(n *impl.Net) { n.Pieces[9].Name = "" }, fault(2, 9)},
		{"joint 0 has no Kind", func(n *impl.Net) { n.Joints[0].Kind = 0 }, fault(3, 0)},
		{"joint 2 has an End of no piece", func(n *impl.Net) { n.Joints[2].Ends[3].Piece = -1 }, fault(3, 2)},
		{"joint 4 has an End of no Side", func(n *impl.Net) { n.Joints[4].Ends[1].Side = 2 }, fault(3, 4)},
		{"joint 7 has no Ends", func(n *impl.Net) { n.Joints[7].Ends = nil }, fault(3, 7)},
		{"joint 0 has a Name", func(n *impl.Net) { n.Joints[0].Name = "q" }, fault(4, 0)},
		{"joint 1 has no Name", func(n *impl.Net) { n.Joints[1].Name = "" }, fault(4, 1)},
		{"joint 3 has a Name", func(n *impl.Net) { n.Joints[3].Name = "A" }, fault(4, 3)},
		{"joint 5 has the Name of joint 2", func(n *impl.Net) { n.Joints[5].Name = n.Joints[2].Name }, fault(4, 5)},
		{"joint 7 has a Name", func(n *impl.Net) { n.Joints[7].Name = "q" }, fault(4, 7)},
		{"piece 0 begins twice", func(n *impl.Net) { n.Joints = append(n.Joints, buffer(end(0, 0))) }, fault(5, 0)},
		{"piece 5 ends twice", func(n *impl.Net) { n.Joints = append(n.Joints, buffer(end(5, 1))) }, fault(5, 5)},
		{"piece 8 begins nowhere", func(n *impl.Net) { n.Joints[6] = buffer(end(7, 1)) }, fault(5, 8)},
		{"piece 9 ends twice", func(n *impl.Net) { n.Joints = append(n.Joints, buffer(end(9, 1))) }, fault(5, 9)},
	}
}

func firstOf(a, b impl.Fault) impl.Fault {
	if b.Code < a.Code || b.Code == a.Code && b.At < a.At {
		return b
	}
	return a
}

func TestNetOrderOfFaults(t *testing.T) {
	for _, a := range netSpoils() {
		n := copyOf(yard())
		a.do(&n)
		wantNet(t, a.what, n, a.want)
		for _, b := range netSpoils() {
			if a.what != b.what {
				n := copyOf(yard())
				a.do(&n)
				b.do(&n)
				wantNet(t, a.what+", "+b.what, n, firstOf(a.want, b.want))
			}
		}
	}
}

// dice gives numbers that are the same in each run.
type dice struct{ state uint64 }

func (d *dice) below(n int) int {
	d.state = d.state*6364136223846793005 + 1442695040888963407
	return int(d.state>>33) % n
}

func (d *dice) number() int {
	return []int{farBelow, farBelow + 1, -1000, -2, -1, 0, 1, 2, 3, 4, 5, 99, 100, 101, 120, 10000000, 10000001, farAbove - 1, farAbove}[d.below(19)]
}

func (d *dice) name() string {
	return []string{"", "a", "b", "c", "\xff", "aaaaaaaaaaaaaaaaaaaaa"}[d.below(6)]
}

// net is a right one with some of it thrown about.
func (d *dice) net() impl.Net {
	n := copyOf([]impl.Net{yard(), lone(), ring(), line(5), {}, scattered(3, 3)}[d.below(6)])
	for range d.below(4) {
		if len(n.Pieces) == 0 || len(n.Joints) == 0 {
			break
		}
		p, j := &n.Pieces[d.below(len(n.Pieces))], &n.Joints[d.below(len(n.Joints))]
		switch d.below(9) {
		case 0:
			p.Name = d.name()
		case 1:
			p.Len = d.number()
		case 2:
			p.Speed = d.number()
		case 3:
			p.Brake = d.number()
		case 4:
			j.Kind = d.number()
		case 5:
			j.Name = d.name()
		case 6:
			j.Ends = j.Ends[:d.below(len(j.Ends)+1)]
		case 7:
			n.Pieces = n.Pieces[:d.below(len(n.Pieces)+1)]
		case 8:
			if len(j.Ends) > 0 {
				j.Ends[d.below(len(j.Ends))] = end(d.number(), d.number())
			}
		}
	}
	return n
}

func TestNetAnyArgument(t *testing.T) {
	d := &dice{state: 1}
	codes := map[int]int{}
	for i := range 20000 {
		n := d.net()
		before := whole(copyOf(n))
		after := copyOf(n)
		first := impl.NetOk(after)
		if !reflect.DeepEqual(whole(after), before) {
			t.Fatalf("net %d: NetOk writes into its argument", i)
		}
		if again := impl.NetOk(after); again != first {
			t.Fatalf("net %d: NetOk is %v, then %v", i, first, again)
		}
		if first.Code < 0 || first.Code > 5 || first.At < 0 || first.Code < 2 && first.At != 0 {
			t.Fatalf("net %d: NetOk is %v", i, first)
		}
		codes[first.Code]++
	}
	for code := range 6 {
		if codes[code] == 0 {
			t.Errorf("no net with code %d was asked about", code)
		}
	}
}

func TestGivenNumbers(t *testing.T) {
	got := []int{impl.MaxPieces, impl.MaxJoints, impl.MaxName, impl.MaxLen, impl.MaxSpeed, impl.MaxBrake, impl.MaxSignals, impl.JEnd, impl.JPlain, impl.JSwitch, impl.JCross}
	want := []int{100, 120, 20, 10000000, 10000, 1000, 60, 1, 2, 3, 4}
	if !reflect.DeepEqual(got, want) {
		t.Errorf("the numbers that the document names are %v, not %v", got, want)
	}
}

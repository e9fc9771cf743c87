package tests

import (
	"strconv"
	"strings"

	"loop.example/signalbox/impl"
)

// The nets, and what copies them, that the tests of what is given share.

const (
	farBelow = -int(^uint(0)>>1) - 1
	farAbove = int(^uint(0) >> 1)
)

func piece(name string, long int) impl.Piece {
	return impl.Piece{Name: name, Len: long, Speed: 100, Brake: 10}
}

func end(piece, side int) impl.End { return impl.End{Piece: piece, Side: side} }

func buffer(e impl.End) impl.Joint { return impl.Joint{Kind: impl.JEnd, Ends: []impl.End{e}} }

func plain(a, b impl.End) impl.Joint {
	return impl.Joint{Kind: impl.JPlain, Ends: []impl.End{a, b}}
}

// lone is one piece between two buffers.
func lone() impl.Net {
	return impl.Net{
		Pieces: []impl.Piece{piece("a", 100)},
		Joints: []impl.Joint{buffer(end(0, 0)), buffer(end(0, 1))},
	}
}

// ring is one piece that is joined to itself.
func ring() impl.Net {
	return impl.Net{
		Pieces: []impl.Piece{piece("a", 100)},
		Joints: []impl.Joint{plain(end(0, 0), end(0, 1))},
	}
}

// line is so many pieces one behind the other, buffers at both ends: one joint more than pieces.
func line(pieces int) impl.Net {
	n := impl.Net{}
	for p := range pieces {
		n.Pieces = append(n.Pieces, piece("p"+strconv.Itoa(p), 100))
		if p == 0 {
			n.Joints = append(n.Joints, buffer(end(0, 0)))
		} else {
			n.Joints = append(n.Joints, plain(end(p-1, 1), end(p, 0)))
		}
	}
	n.Joints = append(n.Joints, buffer(end(pieces-1, 1)))
	return n
}

// scattered is so many pieces each between buffers of its own, and rings behind them.
func scattered(lone, rings int) impl.Net {
	n := impl.Net{}
	for p := range lone + rings {
		n.Pieces = append(n.Pieces, piece("p"+strconv.Itoa(p), 100))
		if p < lone {
			n.Joints = append(n.Joints, buffer(end(p, 0)), buffer(end(p, 1)))
		} else {
			n.Joints = append(n.Joints, plain(end(p, 0), end(p, 1)))
		}
	}
	return n
}

// yard has all kinds of joints, some of them twice:
//
//	0 buffer a; 1 switch w (a; b, c); 2 crossing x (b to d, c to e); 3 plain d, f; 4 switch v (g; f, e);
//	5 crossing y (g to h, i to k); 6 plain h, i; 7 buffer k
func yard() impl.Net {
	n := impl.Net{}
	for _, name := range []string{"a", "b", "c", "d", "e", "f", "g", "h", "i", "k"} {
		n.Pieces = append(n.Pieces, piece(name, 100))
	}
	n.Joints = []impl.Joint{
		buffer(end(0, 0)),
		{Kind: impl.JSwitch, Name: "w", Ends: []impl.End{end(0, 1), end(1, 0), end(2, 0)}},
		{Kind: impl.JCross, Name: "x", Ends: []impl.End{end(1, 1), end(3, 0), end(2, 1), end(4, 0)}},
		plain(end(3, 1), end(5, 0)),
		{Kind: impl.JSwitch, Name: "v", Ends: []impl.End{end(6, 0), end(5, 1), end(4, 1)}},
		{Kind: impl.JCross, Name: "y", Ends: []impl.End{end(6, 1), end(7, 0), end(8, 1), end(9, 0)}},
		plain(end(7, 1), end(8, 0)),
		buffer(end(9, 1)),
	}
	return n
}

// roomy copies a list and leaves room behind it, filled with spare, so that a write behind the end of the list shows too.
func roomy[T any](list []T, spare T) []T {
	out := append(make([]T, 0, len(list)+2), list...)
	all := out[:cap(out)]
	for i := len(list); i < len(all); i++ {
		all[i] = spare
	}
	return out
}

func copyOf(n impl.Net) impl.Net {
	out := impl.Net{Pieces: roomy(n.Pieces, piece("spare", 7)), Joints: roomy(n.Joints, buffer(end(7, 7)))}
	for j := range out.Joints {
		out.Joints[j].Ends = roomy(out.Joints[j].Ends, end(7, 7))
	}
	return out
}

// whole is the net with what lies behind the ends of its lists.
func whole(n impl.Net) impl.Net {
	out := impl.Net{Pieces: n.Pieces[:cap(n.Pieces)], Joints: append([]impl.Joint{}, n.Joints[:cap(n.Joints)]...)}
	for j := range out.Joints {
		out.Joints[j].Ends = out.Joints[j].Ends[:cap(out.Joints[j].Ends)]
	}
	return out
}

// badNames are no names, those in which one byte alone is wrong among them.
func badNames() []string {
	out := []string{"", strings.Repeat("a", impl.MaxName+1), strings.Repeat("a", 100000), "a b", "aB", "Ab", "-", "a-", "ä", "a\x00", "\xff", "a\n"}
	for c := range 256 {
		if !strings.Contains("abcdefghijklmnopqrstuvwxyz0123456789_", string([]byte{byte(c)})) {
			out = append(out, string([]byte{byte(c)}), string([]byte{'a', byte(c), 'a'}), string([]byte{'a', byte(c)}))
		}
	}
	return out
}

// goodNames are names of all bytes that a name may have, and of all lengths.
func goodNames() []string {
	var out []string
	for _, c := range []byte("abcdefghijklmnopqrstuvwxyz0123456789_") {
		out = append(out, string([]byte{c}))
	}
	for n := 2; n <= impl.MaxName; n++ {
		out = append(out, strings.Repeat("z", n), strings.Repeat("_", n), strings.Repeat("0", n))
	}
	return out
}

package tests

import (
	"reflect"
	"strconv"
	"strings"
	"testing"

	"loop.example/signalbox/impl"
)

// Spots and trains written as texts, the nets that tests of trains share, and what copies trains.

func wayOfSign(t *testing.T, text string) int {
	t.Helper()
	way, ok := map[byte]int{'+': 1, '-': -1}[text[len(text)-1]]
	if !ok {
		t.Fatalf("no way in %s", text)
	}
	return way
}

// spotAt takes "a5+": a piece, a place, and to which end it looks.
func spotAt(t *testing.T, n impl.Net, text string) impl.Spot {
	t.Helper()
	return impl.Spot{Piece: pieceNamed(t, n, text[:1]), At: number(t, text[1:len(text)-1]), Way: wayOfSign(t, text)}
}

// stepsOf takes "b+ a-".
func stepsOf(t *testing.T, n impl.Net, text string) []impl.Step {
	t.Helper()
	var out []impl.Step
	for _, s := range strings.Fields(text) {
		out = append(out, impl.Step{Piece: pieceNamed(t, n, s[:1]), Way: wayOfSign(t, s)})
	}
	return out
}

// trainOf takes "a5+ 30 b+ c-": the front, the length, and what it lies over behind its front.
func trainOf(t *testing.T, n impl.Net, text string) impl.Train {
	t.Helper()
	words := strings.SplitN(text, " ", 3)
	out := impl.Train{Front: spotAt(t, n, words[0]), Long: number(t, words[1])}
	if len(words) == 3 {
		out.Back = stepsOf(t, n, words[2])
	}
	return out
}

func spotText(n impl.Net, s impl.Spot) string {
	if s == (impl.Spot{}) {
		return "none"
	}
	step := stepsText(n, []impl.Step{{Piece: s.Piece, Way: s.Way}})
	sign := strings.IndexAny(step, "+-?")
	return step[:sign] + strconv.Itoa(s.At) + step[sign:]
}

func trainText(n impl.Net, x impl.Train) string {
	if reflect.DeepEqual(x, impl.Train{}) {
		return "none"
	}
	out := spotText(n, x.Front) + " " + strconv.Itoa(x.Long)
	if len(x.Back) > 0 {
		out += " " + stepsText(n, x.Back)
	}
	return out
}

// movedText tells every field: "code 1, 25 far, joint 3 | b50+ 30 a+ | a80-100 b0-5".
func movedText(n impl.Net, m impl.Moved) string {
	head := "code " + strconv.Itoa(m.Code) + ", " + strconv.Itoa(m.Far) + " far, joint " + strconv.Itoa(m.Joint)
	return head + " | " + trainText(n, m.Train) + " | " + partsText(n, m.Over)
}

func copyTrain(x impl.Train) impl.Train {
	x.Back = roomy(x.Back, impl.Step{Piece: 7, Way: 7})
	return x
}

// wholeTrain is the train with what lies behind the end of its list.
func wholeTrain(x impl.Train) impl.Train {
	x.Back = x.Back[:cap(x.Back)]
	return x
}

// branch has a piece to look along from either end of each of its joints:
//
//	0 buffer a0; 1 switch (a1; b1, c0); 2 plain b0, d1; 3 buffer c1; 4 crossing (d0 to e0, f1 to g1); 5, 6, 7 buffers e1, f0, g0
func branch(t *testing.T) impl.Net {
	t.Helper()
	return netOf(t, "a10 b20 c30 d40 e50 f60 g70", `end a0
		switch a1 b1 c0
		plain b0 d1
		end c1
		cross d0 e0 f1 g1
		end e1
		end f0
		end g0`)
}

// balloon is a piece that a switch leads round to itself, at the end of another one.
func balloon(t *testing.T) impl.Net {
	t.Helper()
	return netOf(t, "a10 b15", "end a0\nswitch a1 b0 b1")
}

// spur is a ring when its switch lies left.
func spur(t *testing.T) impl.Net {
	t.Helper()
	return netOf(t, "a10 b5", "switch a1 a0 b0\nend b1")
}

// hoop is a ring of pieces of these lengths, one behind the other.
func hoop(lengths ...int) impl.Net {
	n := impl.Net{}
	for p, long := range lengths {
		n.Pieces = append(n.Pieces, piece("p"+strconv.Itoa(p), long))
		n.Joints = append(n.Joints, plain(end(p, 1), end((p+1)%len(lengths), 0)))
	}
	return n
}

// same is so many times one number.
func same(number, count int) []int {
	out := make([]int, count)
	for i := range out {
		out[i] = number
	}
	return out
}

// round is a train on a hoop, with its front so far along a piece.
func round(n impl.Net, front, at, long int) impl.Train {
	out := impl.Train{Front: impl.Spot{Piece: front, At: at, Way: 1}, Long: long}
	for left := long - at; left > 0; left -= n.Pieces[front].Len {
		front = (front + len(n.Pieces) - 1) % len(n.Pieces)
		out.Back = append(out.Back, impl.Step{Piece: front, Way: 1})
	}
	return out
}

package tests

import (
	"reflect"
	"strconv"
	"testing"

	"loop.example/signalbox/impl"
)

func part(piece, from, to int) impl.Part { return impl.Part{Piece: piece, From: from, To: to} }

func lie(joint, lie int) impl.Lie { return impl.Lie{Joint: joint, Lie: lie} }

// turned is a switch in the flank of another one. At is a number that stands for nothing else, so that it shows when it is taken for the switch.
func turned(joint, lie int) impl.Flank {
	return impl.Flank{At: 77, Kind: impl.FSwitch, Of: joint, Lie: lie}
}

func wantNeeds(t *testing.T, what string, r impl.Route, want ...impl.Lie) {
	t.Helper()
	got := impl.Needs(r)
	if len(got) != len(want) || len(want) > 0 && !reflect.DeepEqual(got, want) {
		t.Errorf("%s: Needs is %v, not %v", what, got, want)
	}
}

func TestNeedsOfLies(t *testing.T) {
	wantNeeds(t, "no route", impl.Route{})
	wantNeeds(t, "empty lists", impl.Route{Lies: []impl.Lie{}, Flanks: []impl.Flank{}})
	wantNeeds(t, "one", impl.Route{Lies: []impl.Lie{lie(3, 2)}}, lie(3, 2))
	wantNeeds(t, "in their order, not by number", impl.Route{Lies: []impl.Lie{lie(5, 1), lie(2, 2), lie(9, 1)}}, lie(5, 1), lie(2, 2), lie(9, 1))
	wantNeeds(t, "what stands twice", impl.Route{Lies: []impl.Lie{lie(5, 1), lie(2, 2), lie(5, 1), lie(5, 1)}}, lie(5, 1), lie(2, 2), lie(5, 1), lie(5, 1))
	wantNeeds(t, "a switch in two ways", impl.Route{Lies: []impl.Lie{lie(5, 1), lie(5, 2)}}, lie(5, 1), lie(5, 2))
	wantNeeds(t, "any numbers", impl.Route{Lies: []impl.Lie{lie(-1, 7), {}, lie(farBelow, farAbove), lie(farAbove, farBelow)}}, lie(-1, 7), lie(0, 0), lie(farBelow, farAbove), lie(farAbove, farBelow))
	wantNeeds(t, "nothing else is one", impl.Route{From: 1, To: 2, Steps: []impl.Step{{Piece: 1, Way: 1}}, Crosses: []int{4}, Parts: []impl.Part{part(1, 0, 5)}, Over: []impl.Part{part(1, 5, 7)}})
}

func TestNeedsOfFlanks(t *testing.T) {
	wantNeeds(t, "one", impl.Route{Flanks: []impl.Flank{turned(4, 2)}}, lie(4, 2))
	wantNeeds(t, "each kind", impl.Route{Flanks: []impl.Flank{
		{At: 1, Kind: impl.FBuffer, Of: 2}, {At: 1, Kind: impl.FSignal, Of: 3}, {At: 1, Kind: impl.FSwitch, Of: 4, Lie: 1}, {At: 1, Kind: impl.FOpen, Of: 5},
	}}, lie(4, 1))
	for _, kind := range []int{farBelow, -3, -1, 0, impl.FBuffer, impl.FSignal, impl.FOpen, 5, 1<<32 + 3, farAbove} {
		what := "kind " + strconv.Itoa(kind)
		other := impl.Flank{At: 1, Kind: kind, Of: 4, Lie: 2}
		wantNeeds(t, what, impl.Route{Flanks: []impl.Flank{other}})
		wantNeeds(t, what+", then a switch alike", impl.Route{Flanks: []impl.Flank{other, turned(4, 2)}}, lie(4, 2))
		wantNeeds(t, what+" behind one", impl.Route{Flanks: []impl.Flank{turned(6, 1), other, turned(3, 1)}}, lie(6, 1), lie(3, 1))
	}
	wantNeeds(t, "two alike", impl.Route{Flanks: []impl.Flank{turned(4, 2), turned(4, 2)}}, lie(4, 2))
	wantNeeds(t, "alike, of two switches", impl.Route{Flanks: []impl.Flank{{At: 1, Kind: 3, Of: 4, Lie: 2}, {At: 2, Kind: 3, Of: 4, Lie: 2}}}, lie(4, 2))
	wantNeeds(t, "alike, far apart", impl.Route{Flanks: []impl.Flank{turned(4, 2), turned(9, 1), turned(2, 1), turned(9, 1), turned(4, 2)}}, lie(4, 2), lie(9, 1), lie(2, 1))
	wantNeeds(t, "one switch in two ways", impl.Route{Flanks: []impl.Flank{turned(4, 2), turned(4, 1), turned(4, 2)}}, lie(4, 2), lie(4, 1))
	wantNeeds(t, "two switches in one way", impl.Route{Flanks: []impl.Flank{turned(4, 2), turned(5, 2)}}, lie(4, 2), lie(5, 2))
	wantNeeds(t, "any numbers", impl.Route{Flanks: []impl.Flank{turned(-1, 0), turned(farAbove, farBelow), turned(0, 0), turned(farAbove, farBelow)}}, lie(-1, 0), lie(farAbove, farBelow), lie(0, 0))
}

func TestNeedsOfLiesAndFlanks(t *testing.T) {
	lies := []impl.Lie{lie(7, 1), lie(3, 2)}
	for _, c := range []struct {
		what   string
		flanks []impl.Flank
		more   []impl.Lie
	}{
		{"another switch", []impl.Flank{turned(1, 1)}, []impl.Lie{lie(1, 1)}},
		{"the first of the Lies", []impl.Flank{turned(7, 1)}, nil},
		{"the last of the Lies", []impl.Flank{turned(3, 2)}, nil},
		{"the first, otherwise", []impl.Flank{turned(7, 2)}, []impl.Lie{lie(7, 2)}},
		{"the last, otherwise", []impl.Flank{turned(3, 1)}, []impl.Lie{lie(3, 1)}},
		{"the last, in no way", []impl.Flank{turned(3, 0)}, []impl.Lie{lie(3, 0)}},
		{"otherwise, twice", []impl.Flank{turned(3, 1), turned(3, 1)}, []impl.Lie{lie(3, 1)}},
		{"all of it", []impl.Flank{turned(3, 1), turned(7, 1), turned(1, 2), turned(3, 1), turned(1, 2), turned(0, 2)}, []impl.Lie{lie(3, 1), lie(1, 2), lie(0, 2)}},
		{"one that is open", []impl.Flank{{At: 7, Kind: impl.FOpen, Of: 3}, {At: 3, Kind: impl.FOpen, Of: 9, Lie: 1}}, nil},
	} {
		r := impl.Route{Lies: lies, Flanks: c.flanks}
		wantNeeds(t, c.what, r, append([]impl.Lie{lie(7, 1), lie(3, 2)}, c.more...)...)
		r.Lies = []impl.Lie{lie(7, 1), lie(3, 2), lie(7, 1)}
		wantNeeds(t, c.what+", and Lies that stand twice", r, append([]impl.Lie{lie(7, 1), lie(3, 2), lie(7, 1)}, c.more...)...)
	}
}

func TestNeedsOfRoutes(t *testing.T) {
	n := siding(t)
	want := []string{"1=1 6=2", "1=2 6=1 4=1", "4=1 6=1", "4=2 6=2 1=1", "6=1 1=2 4=1", "6=2 4=2 1=1"}
	routes := impl.Routes(n, signalsOf(t, n, "a50+ c50+ t50+"), 0)
	if len(routes) != len(want) {
		t.Fatalf("there are %d routes", len(routes))
	}
	for i, r := range routes {
		if got := liesText(impl.Needs(r)); got != want[i] {
			t.Errorf("Needs of %s is %s, not %s", routeText(n, r), got, want[i])
		}
	}
}

// siding is two lines, a to b and c to d, from each of which one can come to t.
func siding(t *testing.T) impl.Net {
	t.Helper()
	return netOf(t, "a100 b100 l100 r100 c100 d100 t100", `
		end a0
		switch a1 b0 l0
		end b1
		end c0
		switch c1 d0 r0
		end d1
		switch t1 l1 r1
		end t0`)
}

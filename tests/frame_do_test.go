package tests

import (
	"reflect"
	"strconv"
	"testing"

	"loop.example/signalbox/impl"
)

func TestFrameTrainGoesThrough(t *testing.T) {
	p := lane(t, 3)
	wantStory(t, "in two sections at a time", p, ".... / -", []frameStep{
		{"ask 0", 0, ".... / c+"},
		{"occ 3", 0, "...# / c+"},
		{"occ 0", 0, "#..# / u+:x.."},
		{"free 3", 0, "#... / u+:x.."},
		{"occ 1", 0, "##.. / u+:xx."},
		{"free 0", 0, ".#.. / u+g1:xx."},
		{"occ 2", 0, ".##. / u+g1:xxx"},
		{"free 1", 0, "..#. / u+g2:xxx"},
		{"free 2", 0, ".... / -"},
	})
	wantStory(t, "nowhere in between", p, ".... / -", []frameStep{
		{"ask 0", 0, ".... / c+"},
		{"occ 0", 0, "#... / u+:x.."},
		{"free 0", 0, ".... / u+:x.."},
		{"tick", 0, ""},
		{"occ 1", 0, ".#.. / u+g1:xx."},
		{"free 1", 0, ".... / u+g1:xx."},
		{"tick", 0, ""},
		{"occ 2", 0, "..#. / u+g2:xxx"},
		{"free 2", 0, ".... / -"},
		{"ask 0", 0, ".... / c+"},
	})
	wantStory(t, "in all three", p, ".... / c+", []frameStep{
		{"occ 0", 0, "#... / u+:x.."},
		{"occ 1", 0, "##.. / u+:xx."},
		{"occ 2", 0, "###. / u+:xxx"},
		{"occ 2", 0, ""},
		{"free 0", 0, ".##. / u+g1:xxx"},
		{"free 1", 0, "..#. / u+g2:xxx"},
		{"free 2", 0, ".... / -"},
	})
	wantStory(t, "another one behind it", p, "..#. / u+g2:xxx", []frameStep{
		{"occ 0", 0, "#.#. / u+g2:xxx"},
		{"occ 1", 0, "###. / u+g2:xxx"},
		{"free 2", 0, "##.. / -"},
		{"ask 0", 4, ""},
	})
}

func TestFrameTrainComesBack(t *testing.T) {
	p := lane(t, 3)
	wantStory(t, "into the first", p, ".... / c+", []frameStep{
		{"occ 0", 0, "#... / u+:x.."},
		{"free 0", 0, ".... / u+:x.."},
		{"occ 0", 0, "#... / u+:x.."},
		{"occ 1", 0, "##.. / u+:xx."},
		{"free 1", 0, "#... / u+:xx."},
		{"free 0", 0, ".... / u+g1:xx."},
		{"occ 0", 0, "#... / u+g1:xx."},
		{"free 0", 0, ".... / u+g1:xx."},
		{"occ 1", 0, ".#.. / u+g1:xx."},
		{"occ 2", 0, ".##. / u+g1:xxx"},
		{"free 2", 0, ".#.. / u+g1:xxx"},
		{"free 1", 0, ".... / -"},
	})
	wantStory(t, "from where it came, and stays away", p, ".... / c+", []frameStep{
		{"occ 3", 0, "...# / c+"},
		{"occ 0", 0, "#..# / u+:x.."},
		{"free 0", 0, "...# / u+:x.."},
		{"back 0", 2, ""},
		{"ask 0", 2, ""},
	})
	wantStory(t, "into the last", p, "..#. / u+g2:xxx", []frameStep{
		{"occ 1", 0, ".##. / u+g2:xxx"},
		{"free 1", 0, "..#. / u+g2:xxx"},
		{"free 2", 0, ".... / -"},
	})
}

func TestFrameTrainSkips(t *testing.T) {
	p := lane(t, 3)
	wantStory(t, "the one in the middle", p, ".... / c+", []frameStep{
		{"occ 0", 0, "#... / u+:x.."},
		{"occ 2", 0, "#.#. / u+:x.x"},
		{"free 0", 0, "..#. / u+:x.x"},
		{"free 2", 0, ".... / u+:x.x"},
		{"occ 1", 0, ".#.. / u+g1:xxx"},
		{"free 1", 0, ".... / -"},
	})
	wantStory(t, "the first", p, ".... / c+", []frameStep{
		{"occ 1", 0, ".#.. / s+"},
		{"free 1", 0, ".... / c+"},
		{"occ 2", 0, "..#. / s+"},
		{"occ 1", 0, ".##. / s+"},
		{"free 2", 0, ".#.. / s+"},
		{"occ 0", 0, "##.. / u+:xx."},
	})
	wantStory(t, "the last", p, "##.. / u+:xx.", []frameStep{
		{"free 0", 0, ".#.. / u+g1:xx."},
		{"free 1", 0, ".... / u+g1:xx."},
		{"occ 3", 0, "...# / u+g1:xx."},
		{"free 3", 0, ".... / u+g1:xx."},
	})
}

func TestFrameFreeInAnotherOrder(t *testing.T) {
	p := lane(t, 3)
	wantStory(t, "the last first", p, "###. / u+:xxx", []frameStep{
		{"free 2", 0, "##.. / u+:xxx"},
		{"free 1", 0, "#... / u+:xxx"},
		{"free 0", 0, ".... / -"},
	})
	wantStory(t, "the middle first", p, "###. / u+:xxx", []frameStep{
		{"free 1", 0, "#.#. / u+:xxx"},
		{"free 0", 0, "..#. / u+g2:xxx"},
		{"occ 1", 0, ".##. / u+g2:xxx"},
		{"free 2", 0, ".#.. / -"},
		{"ask 0", 4, ""},
		{"free 1", 0, ".... / -"},
		{"ask 0", 0, ".... / c+"},
	})
	wantStory(t, "the first last, the last first", p, "###. / u:xxx", []frameStep{
		{"free 2", 0, "##.. / u:xxx"},
		{"free 0", 0, ".#.. / ug1:xxx"},
		{"free 1", 0, ".... / -"},
	})
}

func TestFrameWayOfOneSection(t *testing.T) {
	p := planOf(t, 2, "", 2, "", "0 | | | | 1")
	wantStory(t, "one section", p, ".. / -", []frameStep{
		{"free 0", 0, ""},
		{"ask 0", 0, ".. / c+"},
		{"occ 0", 0, "#. / u+:x"},
		{"occ 1", 0, "## / u+:x"},
		{"ask 0", 2, ""},
		{"free 0", 0, ".# / -"},
		{"ask 0", 0, ".# / c+"},
		{"back 0", 0, ".# / t+@2"},
		{"occ 0", 0, "## / u+:x"},
		{"free 0", 0, ".# / -"},
		{"occ 0", 0, "## / -"},
		{"ask 0", 4, ""},
	})
}

func TestFrameTakenBack(t *testing.T) {
	p := fork(t)
	wantStory(t, "clear, nobody near", p, "........ 11 11 11 / c+ - - - -", []frameStep{
		{"back 0", 0, "........ 11 11 11 / - - - - -"},
		{"back 0", 2, ""},
	})
	wantStory(t, "clear, somebody elsewhere", p, "...#..#. 11 11 11 / c+ - - - -", []frameStep{
		{"back 0", 0, "...#..#. 11 11 11 / - - - - -"},
	})
	for _, near := range []string{".......#", ".....#..", ".....#.#"} {
		wantStory(t, "clear, somebody near", p, near+" 11 11 11 / c+ - - - -", []frameStep{
			{"back 0", 0, near + " 11 11 11 / t+@3 - - - -"},
			{"back 0", 2, ""},
			{"ask 0", 2, ""},
			{"ask 1", 3, ""},
		})
	}
	wantStory(t, "was clear, somebody near", p, ".#.....# 11 11 11 / s+ - - - -", []frameStep{
		{"back 0", 0, ".#.....# 11 11 11 / t+@3 - - - -"},
	})
	wantStory(t, "was clear, nobody near", p, ".#...... 11 11 11 / s+ - - - -", []frameStep{
		{"back 0", 0, ".#...... 11 11 11 / - - - - -"},
	})
	wantStory(t, "was never clear, somebody near", p, ".......# 11 11 11 / - - - - -", []frameStep{
		{"ask 1", 0, ".......# 21 21 21 / - s - - -"},
		{"back 1", 0, ".......# 21 21 21 / - - - - -"},
		{"ask 1", 0, ".......# 21 21 21 / - s - - -"},
		{"lies 0 2", 0, ".......# 22 21 21 / - s - - -"},
		{"lies 1 2", 0, ".......# 22 22 21 / - s - - -"},
		{"lies 2 2", 0, ".......# 22 22 22 / - c+ - - -"},
		{"lies 1 0", 0, ".......# 22 20 22 / - s+ - - -"},
		{"back 1", 0, ".......# 22 20 22 / - t+@3 - - -"},
	})
	wantStory(t, "no section ahead of it", p, "#######. 22 11 11 / - - - u+:x -", []frameStep{{"back 3", 2, ""}})
	wantStory(t, "no section ahead of it, clear", p, "#####..# 22 11 11 / - - - c+ -", []frameStep{
		{"back 3", 0, "#####..# 22 11 11 / - - - - -"},
	})
	wantStory(t, "used, and used no more", p, "#......# 11 11 11 / u+:x.. - - - -", []frameStep{
		{"back 0", 2, ""},
		{"free 0", 0, ".......# 11 11 11 / u+:x.. - - - -"},
		{"back 0", 2, ""},
	})
}

func TestFrameHeldForTicks(t *testing.T) {
	p := fork(t)
	wantStory(t, "Hold 3", p, ".......# 11 11 11 / c+ - - - -", []frameStep{
		{"tick", 0, ""},
		{"back 0", 0, ".......# 11 11 11 / t+@3 - - - -"},
		{"tick", 0, ".......# 11 11 11 / t+@2 - - - -"},
		{"free 7", 0, "........ 11 11 11 / t+@2 - - - -"},
		{"lies 0 0", 0, "........ 10 11 11 / t+@2 - - - -"},
		{"occ 1", 0, ".#...... 10 11 11 / t+@2 - - - -"},
		{"tick", 0, ".#...... 10 11 11 / t+@1 - - - -"},
		{"move 0 2", 2, ""},
		{"tick", 0, ".#...... 10 11 11 / - - - - -"},
		{"move 0 2", 3, ""},
		{"tick", 0, ""},
	})
	wantStory(t, "somebody comes in", p, ".......# 11 11 11 / t+@3 - - - -", []frameStep{
		{"tick", 0, ".......# 11 11 11 / t+@2 - - - -"},
		{"occ 0", 0, "#......# 11 11 11 / u+:x.. - - - -"},
		{"tick", 0, ""},
		{"tick", 0, ""},
		{"tick", 0, ""},
		{"free 0", 0, ".......# 11 11 11 / u+:x.. - - - -"},
	})
	wantStory(t, "somebody comes into its last section, then into its first", p, "........ 11 11 11 / t+@1 - - - -", []frameStep{
		{"occ 2", 0, "..#..... 11 11 11 / t+@1 - - - -"},
		{"occ 0", 0, "#.#..... 11 11 11 / u+:x.x - - - -"},
		{"tick", 0, ""},
	})
	wantStory(t, "two at once", p, "..#....# 11 11 11 / t+@2 - t+@1 - -", []frameStep{
		{"tick", 0, "..#....# 11 11 11 / t+@1 - - - -"},
		{"ask 2", 3, ""},
		{"tick", 0, "..#....# 11 11 11 / - - - - -"},
		{"ask 2", 0, "..#....# 11 11 11 / - - c+ - -"},
	})
	for _, hold := range []int{1, 2, 300} {
		p := lane(t, hold)
		f := frameOf(t, p, "...# / c+")
		f = impl.DoFrame(p, f, eventOf(t, "back 0")).Frame
		for left := hold; left > 0; left-- {
			if want := "...# / t+@" + strconv.Itoa(left); frameText(f) != want {
				t.Fatalf("Hold %d: %s, not %s", hold, frameText(f), want)
			}
			f = impl.DoFrame(p, f, eventOf(t, "tick")).Frame
		}
		if frameText(f) != "...# / -" {
			t.Errorf("Hold %d: %s at the end", hold, frameText(f))
		}
	}
}

func TestFrameSwitchUnderAClearSignal(t *testing.T) {
	wantStory(t, "way 1", fork(t), "........ 11 11 11 / - - - - -", []frameStep{
		{"ask 1", 0, "........ 21 21 21 / - s - - -"},
		{"lies 0 0", 0, "........ 20 21 21 / - s - - -"},
		{"lies 0 2", 0, "........ 22 21 21 / - s - - -"},
		{"lies 1 2", 0, "........ 22 22 21 / - s - - -"},
		{"lies 2 2", 0, "........ 22 22 22 / - c+ - - -"},
		{"lies 0 0", 0, "........ 20 22 22 / - s+ - - -"},
		{"lies 1 1", 0, "........ 20 21 22 / - s+ - - -"},
		{"lies 0 2", 0, "........ 22 21 22 / - s+ - - -"},
		{"lies 1 2", 0, "........ 22 22 22 / - c+ - - -"},
		{"lies 2 1", 0, "........ 22 22 21 / - s+ - - -"},
		{"occ 0", 0, "#....... 22 22 21 / - u+:x.. - - -"},
		{"lies 2 2", 0, "#....... 22 22 22 / - u+:x.. - - -"},
	})
	wantStory(t, "a way that is entered before it is clear", fork(t), "........ 21 21 21 / - s - - -", []frameStep{
		{"occ 0", 0, "#....... 21 21 21 / - u:x.. - - -"},
		{"lies 0 2", 0, "#....... 22 21 21 / - u:x.. - - -"},
		{"lies 1 2", 0, "#....... 22 22 21 / - u:x.. - - -"},
		{"lies 2 2", 0, "#....... 22 22 22 / - u:x.. - - -"},
		{"free 0", 0, "........ 22 22 22 / - u:x.. - - -"},
	})
	wantStory(t, "two ways over one switch", fork(t), "........ 22 22 22 / - c+ - c+ -", []frameStep{
		{"lies 0 1", 0, "........ 21 22 22 / - s+ - s+ -"},
		{"lies 0 2", 0, "........ 22 22 22 / - c+ - c+ -"},
		{"occ 6", 0, "......#. 22 22 22 / - c+ - s+ -"},
		{"free 6", 0, "........ 22 22 22 / - c+ - c+ -"},
	})
}

func TestFrameMove(t *testing.T) {
	p := fork(t)
	wantStory(t, "a free one", p, "........ 11 11 11 / - - - - -", []frameStep{
		{"move 0 2", 0, "........ 21 11 11 / - - - - -"},
		{"move 0 2", 0, ""},
		{"move 0 1", 0, "........ 11 11 11 / - - - - -"},
		{"lies 0 0", 0, "........ 10 11 11 / - - - - -"},
		{"move 0 2", 0, "........ 20 11 11 / - - - - -"},
		{"move 2 2", 0, "........ 20 11 21 / - - - - -"},
		{"ask 0", 0, "........ 10 11 21 / s - - - -"},
		{"move 2 1", 0, "........ 10 11 11 / s - - - -"},
	})
	wantStory(t, "somebody in its section", p, ".#...... 11 11 11 / - - - - -", []frameStep{
		{"move 0 2", 3, ""},
		{"move 0 1", 3, ""},
		{"move 1 2", 0, ".#...... 11 21 11 / - - - - -"},
		{"free 1", 0, "........ 11 21 11 / - - - - -"},
		{"move 0 2", 0, "........ 21 21 11 / - - - - -"},
	})
	wantStory(t, "one that a way wants", p, "........ 11 11 11 / c+ - - - -", []frameStep{
		{"move 0 2", 2, ""},
		{"move 0 1", 2, ""},
		{"move 1 2", 2, ""},
		{"move 2 2", 0, "........ 11 11 21 / c+ - - - -"},
		{"occ 3", 0, "...#.... 11 11 21 / c+ - - - -"},
		{"move 1 2", 2, ""},
		{"occ 0", 0, "#..#.... 11 11 21 / u+:x.. - - - -"},
		{"occ 1", 0, "##.#.... 11 11 21 / u+:xx. - - - -"},
		{"move 0 2", 2, ""},
		{"free 0", 0, ".#.#.... 11 11 21 / u+g1:xx. - - - -"},
		{"move 0 2", 2, ""},
		{"occ 2", 0, ".###.... 11 11 21 / u+g1:xxx - - - -"},
		{"move 0 2", 2, ""},
		{"free 1", 0, "..##.... 11 11 21 / u+g2:xxx - - - -"},
		{"move 1 2", 2, ""},
		{"occ 1", 0, ".###.... 11 11 21 / u+g2:xxx - - - -"},
		{"move 0 2", 3, ""},
		{"free 1", 0, "..##.... 11 11 21 / u+g2:xxx - - - -"},
		{"move 0 2", 0, "..##.... 21 11 21 / u+g2:xxx - - - -"},
		{"free 2", 0, "...#.... 21 11 21 / - - - - -"},
		{"move 1 2", 3, ""},
		{"free 3", 0, "........ 21 11 21 / - - - - -"},
		{"move 1 2", 0, "........ 21 21 21 / - - - - -"},
	})
	for _, held := range []string{"s+", "t+@1", "u", "u+:x.."} {
		wantStory(t, "wanted by "+held, p, "........ 10 11 11 / "+held+" - - - -", []frameStep{
			{"move 0 2", 2, ""},
			{"move 1 2", 2, ""},
			{"move 2 2", 0, "........ 10 11 21 / " + held + " - - - -"},
		})
	}
	wantStory(t, "wanted by two", p, "........ 22 22 22 / - c+ - c+ -", []frameStep{
		{"move 0 1", 2, ""},
		{"back 1", 0, "........ 22 22 22 / - - - c+ -"},
		{"move 0 1", 2, ""},
		{"back 3", 0, "........ 22 22 22 / - - - - -"},
		{"move 0 1", 0, "........ 12 22 22 / - - - - -"},
	})
}

func TestFrameAsk(t *testing.T) {
	p := fork(t)
	idle := "........ 11 11 11 / - - - - -"
	wantStory(t, "each Code", p, idle, []frameStep{
		{"ask 0", 0, "........ 11 11 11 / c+ - - - -"},
		{"ask 0", 2, ""},
		{"ask 1", 3, ""},
		{"ask 2", 3, ""},
		{"ask 3", 5, ""},
		{"occ 5", 0, ".....#.. 11 11 11 / c+ - - - -"},
		{"ask 3", 4, ""},
		{"free 5", 0, "........ 11 11 11 / c+ - - - -"},
		{"ask 4", 0, "........ 11 11 11 / c+ - - - c+"},
		{"ask 2", 3, ""},
		{"ask 3", 3, ""},
		{"back 0", 0, "........ 11 11 11 / - - - - c+"},
		{"ask 1", 5, ""},
		{"back 4", 0, idle},
		{"occ 6", 0, "......#. 11 11 11 / - - - - -"},
		{"ask 1", 6, ""},
		{"ask 3", 4, ""},
		{"ask 0", 0, "......#. 11 11 11 / c+ - - - -"},
	})
	wantStory(t, "somebody ahead of its signal", p, ".......# 11 11 11 / - - - - -", []frameStep{
		{"ask 0", 0, ".......# 11 11 11 / c+ - - - -"},
	})
	wantStory(t, "switches that are not known to lie", p, "........ 10 20 10 / - - - - -", []frameStep{
		{"ask 0", 0, "........ 10 10 10 / s - - - -"},
		{"lies 0 1", 0, "........ 11 10 10 / s - - - -"},
		{"lies 1 1", 0, "........ 11 11 10 / c+ - - - -"},
	})
	wantStory(t, "a switch that is wanted so, under somebody", p, "......#. 11 11 21 / - - - - -", []frameStep{
		{"ask 1", 0, "......#. 21 21 21 / - s - - -"},
	})
	wantStory(t, "a switch that was let go of", p, "..#..... 11 11 11 / u+g2:xxx - - - -", []frameStep{
		{"ask 3", 0, "..#..... 21 11 11 / u+g2:xxx - - s -"},
		{"lies 0 2", 0, "..#..... 22 11 11 / u+g2:xxx - - c+ -"},
		{"free 2", 0, "........ 22 11 11 / - - - c+ -"},
	})
	wantStory(t, "the sections of another way that were let go of", p, "..#..... 11 11 11 / u+g2:xxx - - - -", []frameStep{
		{"ask 1", 3, ""},
		{"ask 2", 3, ""},
	})
}

func TestDoFrameOfNone(t *testing.T) {
	p := fork(t)
	text := "..#..... 10 10 11 / ug2:xxx - t+@3 s -"
	none := impl.FrameDone{Code: 1}
	for _, e := range []impl.FrameEvent{
		{}, {Op: 0, Of: 0}, {Op: 8}, {Op: -1}, {Op: farAbove}, {Op: farBelow},
		{Op: 1, Of: -1}, {Op: 1, Of: 5}, {Op: 1, Of: 1, Lie: 1}, {Op: 2, Of: -1}, {Op: 2, Of: 5}, {Op: 2, Of: 3, Lie: -1},
		{Op: 3, Of: -1}, {Op: 3, Of: 8}, {Op: 3, Of: 3, Lie: 1}, {Op: 4, Of: -1}, {Op: 4, Of: 8}, {Op: 4, Of: 2, Lie: 1},
		{Op: 5, Of: -1, Lie: 1}, {Op: 5, Of: 3, Lie: 1}, {Op: 5, Of: 0, Lie: 3}, {Op: 5, Of: 0, Lie: -1},
		{Op: 6, Of: -1, Lie: 1}, {Op: 6, Of: 3, Lie: 1}, {Op: 6, Of: 2, Lie: 0}, {Op: 6, Of: 2, Lie: 3},
		{Op: 7, Of: 1}, {Op: 7, Of: -1}, {Op: 7, Lie: 1}, {Op: 3, Of: farAbove}, {Op: 1, Of: farBelow},
	} {
		if got := impl.DoFrame(p, frameOf(t, p, text), e); !reflect.DeepEqual(got, none) {
			t.Errorf("%v: %v", e, got)
		}
	}
	events := []string{"ask 1", "ask 0", "back 3", "occ 0", "free 2", "lies 0 1", "move 2 2", "tick"}
	for _, event := range events {
		e := eventOf(t, event)
		for _, text := range []string{
			"........ 11 11 11 / s - - - -",
			"#....... 11 11 11 / c+ - - - -",
			"........ 11 11 11 / t+ - - - -",
			"........ 11 11 11 / t+@4 - - - -",
			"........ 11 11 11 / c+ s - - -",
			"........ 11 11 11 / ug2:xxx - - - -",
			"........ 31 11 11 / - - - - -",
			"........ 11 11 13 / - - - - -",
		} {
			if got := impl.DoFrame(p, frameOf(t, p, text), e); !reflect.DeepEqual(got, none) {
				t.Errorf("%s, %s: %v", text, event, got)
			}
		}
		if got := impl.DoFrame(p, impl.Frame{}, e); !reflect.DeepEqual(got, none) {
			t.Errorf("the zero value, %s: %v", event, got)
		}
		for _, s := range planSpoils() {
			p := fork(t)
			s.do(&p)
			if got := impl.DoFrame(p, frameOf(t, fork(t), text), e); !reflect.DeepEqual(got, none) {
				t.Errorf("%s, %s: %v", s.what, event, got)
			}
		}
	}
}

// The answer is in memory of its own with each Code, and what was given stays as it was.
func TestDoFrameCopies(t *testing.T) {
	p := copyPlan(fork(t))
	f := copyFrame(frameOf(t, p, ".....#.. 22 22 22 / - c+ t+@2 u+:x -"))
	beforePlan, beforeFrame := wholePlan(copyPlan(p)), wholeFrame(copyFrame(f))
	codes := map[int]int{}
	for _, event := range []string{"ask 0", "ask 1", "ask 2", "ask 3", "ask 4", "back 0", "back 1", "back 2", "back 3", "occ 0", "occ 1", "occ 5", "free 5", "free 0", "lies 0 0", "lies 2 1", "move 0 1", "move 1 1", "move 2 1", "tick"} {
		done := impl.DoFrame(p, f, eventOf(t, event))
		codes[done.Code]++
		wantApart(t, event, done, p, f)
		spoil(done.Frame.Occ, true)
		spoil(done.Frame.Points, impl.Point{})
		for _, h := range done.Frame.Ways {
			spoil(h.Been, true)
		}
		if !reflect.DeepEqual(wholePlan(p), beforePlan) || !reflect.DeepEqual(wholeFrame(f), beforeFrame) {
			t.Fatalf("%s: something is written into an argument", event)
		}
	}
	if codes[0] == 0 || codes[2] == 0 || codes[3] == 0 {
		t.Errorf("the codes are %v", codes)
	}
}

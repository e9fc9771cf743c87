package tests

import (
	"slices"
	"strconv"
	"strings"
	"testing"

	"loop.example/signalbox/impl"
)

// Plans, frames and events written as texts, so that a test of the frame can be read.

func numbers(t *testing.T, text string) []int {
	t.Helper()
	var out []int
	for _, word := range strings.Fields(text) {
		out = append(out, number(t, word))
	}
	return out
}

func turnsOf(t *testing.T, text string) []impl.Turn {
	t.Helper()
	var out []impl.Turn
	for _, word := range strings.Fields(text) {
		point, lie, _ := strings.Cut(word, ":")
		out = append(out, impl.Turn{Switch: number(t, point), Lie: number(t, lie)})
	}
	return out
}

// wayOf takes Sections, Lies ("0:2": switch 0 has to lie 2), Flanks, Over and Near, with | between them.
func wayOf(t *testing.T, text string) impl.Way {
	t.Helper()
	lists := strings.Split(text, "|")
	return impl.Way{
		Sections: numbers(t, lists[0]),
		Lies:     turnsOf(t, lists[1]),
		Flanks:   turnsOf(t, lists[2]),
		Over:     numbers(t, lists[3]),
		Near:     numbers(t, lists[4]),
	}
}

func bar(p *impl.Plan, i, k int, value bool) { p.Bars[i][k], p.Bars[k][i] = value, value }

// planOf takes the sections of switches, which ways exclude each other ("0-1 1-2"), and the ways.
func planOf(t *testing.T, sections int, switches string, hold int, bars string, ways ...string) impl.Plan {
	t.Helper()
	p := impl.Plan{Sections: sections, Switches: numbers(t, switches), Hold: hold}
	for _, w := range ways {
		p.Ways = append(p.Ways, wayOf(t, w))
		p.Bars = append(p.Bars, make([]bool, len(ways)))
	}
	for _, word := range strings.Fields(bars) {
		i, k, _ := strings.Cut(word, "-")
		bar(&p, number(t, i), number(t, k), true)
	}
	return p
}

// fork has ways over a switch to the left (0) and to the right (1), one behind the end of way 0 (2), one that the switch keeps others from (3), and one with a switch of its own (4).
func fork(t *testing.T) impl.Plan {
	t.Helper()
	return planOf(t, 8, "1 3 6", 3, "0-1 2-4",
		"0 1 2 | 0:1     | 1:1 | 4 | 7 5",
		"0 1 3 | 0:2 1:2 | 2:2 |   | 7",
		"4     |         |     |   | 2",
		"5     |         | 0:2 | 6 |",
		"6     | 2:1     |     |   | 4",
	)
}

// lane is one way, with no switch.
func lane(t *testing.T, hold int) impl.Plan {
	t.Helper()
	return planOf(t, 4, "", hold, "", "0 1 2 | | | | 3")
}

func copyPlan(p impl.Plan) impl.Plan {
	p.Switches = roomy(p.Switches, 7)
	p.Ways = roomy(p.Ways, impl.Way{})
	for i, w := range p.Ways {
		spare := impl.Turn{Switch: 7, Lie: 7}
		p.Ways[i] = impl.Way{Sections: roomy(w.Sections, 7), Lies: roomy(w.Lies, spare), Flanks: roomy(w.Flanks, spare), Over: roomy(w.Over, 7), Near: roomy(w.Near, 7)}
	}
	p.Bars = roomy(p.Bars, nil)
	for i := range p.Bars {
		p.Bars[i] = roomy(p.Bars[i], true)
	}
	return p
}

func copyFrame(f impl.Frame) impl.Frame {
	f.Occ = roomy(f.Occ, true)
	f.Points = roomy(f.Points, impl.Point{Want: 7, Lies: 7})
	f.Ways = roomy(f.Ways, impl.Held{State: 7})
	for i := range f.Ways {
		f.Ways[i].Been = roomy(f.Ways[i].Been, true)
	}
	return f
}

// wholePlan and wholeFrame are those with what lies behind the ends of their lists.
func wholePlan(p impl.Plan) impl.Plan {
	p.Switches = p.Switches[:cap(p.Switches)]
	p.Ways = slices.Clone(p.Ways[:cap(p.Ways)])
	for i, w := range p.Ways {
		p.Ways[i] = impl.Way{Sections: w.Sections[:cap(w.Sections)], Lies: w.Lies[:cap(w.Lies)], Flanks: w.Flanks[:cap(w.Flanks)], Over: w.Over[:cap(w.Over)], Near: w.Near[:cap(w.Near)]}
	}
	p.Bars = slices.Clone(p.Bars[:cap(p.Bars)])
	for i := range p.Bars {
		p.Bars[i] = p.Bars[i][:cap(p.Bars[i])]
	}
	return p
}

func wholeFrame(f impl.Frame) impl.Frame {
	f.Occ, f.Points = f.Occ[:cap(f.Occ)], f.Points[:cap(f.Points)]
	f.Ways = slices.Clone(f.Ways[:cap(f.Ways)])
	for i := range f.Ways {
		f.Ways[i].Been = f.Ways[i].Been[:cap(f.Ways[i].Been)]
	}
	return f
}

func flagsText(flags []bool, no, yes string) string {
	out := ""
	for _, flag := range flags {
		if flag {
			out += yes
		} else {
			out += no
		}
	}
	return out
}

func flagsOf(text, yes string) []bool {
	var out []bool
	for _, sign := range text {
		out = append(out, string(sign) == yes)
	}
	return out
}

const stateSigns = "-sctu"

// heldText is the state of a way (- idle, s set, c clear, t taking, u used), + when Shown, @ and Timer, g and Gone, and behind : in which of its sections the train has been (x); what is 0 or false is left out.
func heldText(h impl.Held) string {
	out := "?" + strconv.Itoa(h.State)
	if h.State >= 0 && h.State < len(stateSigns) {
		out = stateSigns[h.State : h.State+1]
	}
	if h.Shown {
		out += "+"
	}
	if h.Timer != 0 {
		out += "@" + strconv.Itoa(h.Timer)
	}
	if h.Gone != 0 {
		out += "g" + strconv.Itoa(h.Gone)
	}
	if slices.Contains(h.Been, true) {
		out += ":" + flagsText(h.Been, ".", "x")
	}
	return out
}

func heldOf(t *testing.T, text string, sections int) impl.Held {
	t.Helper()
	h := impl.Held{State: strings.IndexByte(stateSigns, text[0]), Been: make([]bool, sections)}
	rest, been, ok := strings.Cut(text[1:], ":")
	if ok {
		h.Been = flagsOf(been, "x")
	}
	if rest, been, ok = strings.Cut(rest, "g"); ok {
		h.Gone = number(t, been)
	}
	if rest, been, ok = strings.Cut(rest, "@"); ok {
		h.Timer = number(t, been)
	}
	h.Shown = rest == "+"
	return h
}

// frameText is in which sections somebody is (#), how each switch is wanted and known to lie (12: wanted 1, known 2), and behind / the ways.
func frameText(f impl.Frame) string {
	words := []string{flagsText(f.Occ, ".", "#")}
	if !f.Ok {
		words = append(words, "not")
	}
	for _, x := range f.Points {
		words = append(words, strconv.Itoa(x.Want)+strconv.Itoa(x.Lies))
	}
	words = append(words, "/")
	for _, h := range f.Ways {
		words = append(words, heldText(h))
	}
	return strings.Join(words, " ")
}

func frameOf(t *testing.T, p impl.Plan, text string) impl.Frame {
	t.Helper()
	points, ways, _ := strings.Cut(text, "/")
	words := strings.Fields(points)
	f := impl.Frame{Ok: true, Occ: flagsOf(words[0], "#")}
	for _, word := range words[1:] {
		f.Points = append(f.Points, impl.Point{Want: number(t, word[:1]), Lies: number(t, word[1:])})
	}
	for i, word := range strings.Fields(ways) {
		f.Ways = append(f.Ways, heldOf(t, word, len(p.Ways[i].Sections)))
	}
	if frameText(f) != text || len(f.Occ) != p.Sections || len(f.Points) != len(p.Switches) || len(f.Ways) != len(p.Ways) {
		t.Fatalf("the test's own frame %q is read as %q", text, frameText(f))
	}
	return f
}

// eventOf takes "ask 0", "lies 0 2" and the like.
func eventOf(t *testing.T, text string) impl.FrameEvent {
	t.Helper()
	words := strings.Fields(text)
	e := impl.FrameEvent{Op: 1 + slices.Index([]string{"ask", "back", "occ", "free", "lies", "move", "tick"}, words[0])}
	if e.Op == 0 {
		t.Fatalf("no event %s", text)
	}
	if len(words) > 1 {
		e.Of = number(t, words[1])
	}
	if len(words) > 2 {
		e.Lie = number(t, words[2])
	}
	return e
}

type frameStep struct {
	event string
	code  int
	want  string
}

// wantStory does events one after the other; an empty text stands for the frame as it was.
func wantStory(t *testing.T, what string, p impl.Plan, begin string, steps []frameStep) {
	t.Helper()
	f := frameOf(t, p, begin)
	if !impl.FrameOk(p, f) {
		t.Errorf("%s: the test's own frame %s is none", what, begin)
		return
	}
	for i, step := range steps {
		want := step.want
		if want == "" {
			want = frameText(f)
		}
		done := impl.DoFrame(p, f, eventOf(t, step.event))
		if done.Code != step.code || frameText(done.Frame) != want {
			t.Errorf("%s, %d: %s: Code %d, %s; not %d, %s", what, i, step.event, done.Code, frameText(done.Frame), step.code, want)
			return
		}
		if !impl.FrameOk(p, done.Frame) {
			t.Errorf("%s, %d: %s: %s is no frame", what, i, step.event, frameText(done.Frame))
		}
		f = done.Frame
	}
}

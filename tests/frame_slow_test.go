package tests

import (
	"reflect"
	"slices"
	"strconv"
	"testing"

	"loop.example/signalbox/impl"
)

// What chapter 5 says, sentence by sentence and with no care for time: the answers of the program are held against it.

func twice[T comparable](list []T) bool {
	for i, x := range list {
		if slices.Contains(list[:i], x) {
			return true
		}
	}
	return false
}

func inBoth(a, b []int) bool {
	return someTwo(a, b, func(x, y int) bool { return x == y })
}

func slowWay(p impl.Plan, w impl.Way) bool {
	if len(w.Sections) == 0 || inBoth(w.Sections, w.Over) {
		return false
	}
	for _, list := range [][]int{w.Sections, w.Over, w.Near} {
		if len(list) > 30 || twice(list) {
			return false
		}
		for _, section := range list {
			if section < 0 || section >= p.Sections {
				return false
			}
		}
	}
	var switches []int
	for _, t := range append(slices.Clone(w.Lies), w.Flanks...) {
		if t.Switch < 0 || t.Switch >= len(p.Switches) || t.Lie != 1 && t.Lie != 2 {
			return false
		}
		switches = append(switches, t.Switch)
	}
	for _, t := range w.Lies {
		if !slices.Contains(w.Sections, p.Switches[t.Switch]) {
			return false
		}
	}
	return len(w.Lies) <= 30 && len(w.Flanks) <= 30 && !twice(switches)
}

func slowPlan(p impl.Plan) impl.Fault {
	if p.Sections < 1 || p.Sections > 60 || p.Hold < 1 || p.Hold > 300 || len(p.Switches) > 40 || len(p.Ways) > 100 {
		return fault(1, 0)
	}
	for k, section := range p.Switches {
		if section < 0 || section >= p.Sections {
			return fault(2, k)
		}
	}
	for i, w := range p.Ways {
		if !slowWay(p, w) {
			return fault(3, i)
		}
	}
	if len(p.Bars) != len(p.Ways) {
		return fault(4, 0)
	}
	for i, row := range p.Bars {
		if len(row) != len(p.Ways) {
			return fault(4, i)
		}
	}
	for i := range p.Ways {
		for k := range p.Ways {
			if p.Bars[i][k] != p.Bars[k][i] || i != k && inBoth(p.Ways[i].Sections, p.Ways[k].Sections) && !p.Bars[i][k] {
				return fault(5, i)
			}
		}
	}
	return fault(0, 0)
}

func slowFrameEvent(p impl.Plan, e impl.FrameEvent) bool {
	if slowPlan(p) != fault(0, 0) || e.Of < 0 {
		return false
	}
	many, lies := map[int]int{1: len(p.Ways), 2: len(p.Ways), 3: p.Sections, 4: p.Sections, 5: len(p.Switches), 6: len(p.Switches), 7: 1}, []int{0}
	switch e.Op {
	case 5:
		lies = []int{0, 1, 2}
	case 6:
		lies = []int{1, 2}
	}
	return e.Of < many[e.Op] && slices.Contains(lies, e.Lie)
}

// slowNeed is how a way needs a switch to lie, 0 when it does not.
func slowNeed(w impl.Way, point int) int {
	for _, list := range [][]impl.Turn{w.Lies, w.Flanks} {
		for _, t := range list {
			if t.Switch == point {
				return t.Lie
			}
		}
	}
	return 0
}

func slowProved(p impl.Plan, f impl.Frame, way int) bool {
	for point, x := range f.Points {
		if need := slowNeed(p.Ways[way], point); need != 0 && (x.Want != need || x.Lies != need) {
			return false
		}
	}
	for section, occ := range f.Occ {
		if occ && (slices.Contains(p.Ways[way].Sections, section) || slices.Contains(p.Ways[way].Over, section)) {
			return false
		}
	}
	return true
}

func slowCopy(f impl.Frame) impl.Frame {
	f.Occ, f.Points, f.Ways = slices.Clone(f.Occ), slices.Clone(f.Points), slices.Clone(f.Ways)
	for i := range f.Ways {
		f.Ways[i].Been = slices.Clone(f.Ways[i].Been)
	}
	return f
}

func slowSettle(p impl.Plan, given impl.Frame) impl.Frame {
	f := slowCopy(given)
	for i := range f.Ways {
		h, sections := &f.Ways[i], p.Ways[i].Sections
		if h.State == 0 {
			continue
		}
		if h.State != 4 && f.Occ[sections[0]] {
			h.State, h.Timer = 4, 0
		}
		if h.State == 1 || h.State == 2 {
			h.State = 1
			if slowProved(p, f, i) {
				h.State, h.Shown = 2, true
			}
		}
		if h.State != 4 {
			continue
		}
		for at, section := range sections {
			if f.Occ[section] {
				h.Been[at] = true
			}
		}
		for at := h.Gone; at < len(sections); at++ {
			if !h.Been[at] || f.Occ[sections[at]] {
				break
			}
			if at+1 < len(sections) && !h.Been[at+1] {
				break
			}
			h.Gone = at + 1
		}
		if h.Gone == len(sections) {
			*h = impl.Held{Been: make([]bool, len(sections))}
		}
	}
	return f
}

func slowHeld(p impl.Plan, way int, h impl.Held) bool {
	if h.State < 0 || h.State > 4 || len(h.Been) != len(p.Ways[way].Sections) || h.Gone < 0 || h.Gone >= len(h.Been) {
		return false
	}
	for at, been := range h.Been {
		if h.State != 4 && been || h.State == 4 && at < h.Gone && !been {
			return false
		}
	}
	if h.State != 4 && h.Gone != 0 || h.State == 0 && h.Shown || (h.State == 2 || h.State == 3) && !h.Shown {
		return false
	}
	if h.State == 3 {
		return h.Timer >= 1 && h.Timer <= p.Hold
	}
	return h.Timer == 0
}

func slowFrame(p impl.Plan, f impl.Frame) bool {
	if slowPlan(p) != fault(0, 0) || !f.Ok || len(f.Occ) != p.Sections || len(f.Points) != len(p.Switches) || len(f.Ways) != len(p.Ways) {
		return false
	}
	for _, x := range f.Points {
		if x.Want < 1 || x.Want > 2 || x.Lies < 0 || x.Lies > 2 {
			return false
		}
	}
	for i, h := range f.Ways {
		if !slowHeld(p, i, h) {
			return false
		}
		for k := range i {
			if h.State != 0 && f.Ways[k].State != 0 && p.Bars[i][k] {
				return false
			}
		}
	}
	return sameFrame(slowSettle(p, f), f)
}

func sameFrame(a, b impl.Frame) bool {
	return a.Ok == b.Ok && slices.Equal(a.Occ, b.Occ) && slices.Equal(a.Points, b.Points) && slices.EqualFunc(a.Ways, b.Ways, func(x, y impl.Held) bool {
		return x.State == y.State && x.Gone == y.Gone && slices.Equal(x.Been, y.Been) && x.Shown == y.Shown && x.Timer == y.Timer
	})
}

// slowHas is whether a way is held and has a section that it has not let go of.
func slowHas(p impl.Plan, f impl.Frame, way, section int) bool {
	return f.Ways[way].State != 0 && slices.Contains(p.Ways[way].Sections[f.Ways[way].Gone:], section)
}

func slowLocked(p impl.Plan, f impl.Frame, section int) int {
	if slowFrame(p, f) {
		for i := range p.Ways {
			if slowHas(p, f, i, section) {
				return i
			}
		}
	}
	return -1
}

func slowWanting(p impl.Plan, f impl.Frame, point int) []int {
	var out []int
	for i, w := range p.Ways {
		beside := slowNeed(impl.Way{Flanks: w.Flanks}, point) != 0
		on := slowNeed(impl.Way{Lies: w.Lies}, point) != 0
		if f.Ways[i].State != 0 && beside || on && slowHas(p, f, i, p.Switches[point]) {
			out = append(out, i)
		}
	}
	return out
}

// slowCauses is what is to be said for each of the answers 3 to 6.
func slowCauses(p impl.Plan, f impl.Frame, way int) (ways, sections, wanted, under []int) {
	w := p.Ways[way]
	for k, other := range p.Ways {
		if k != way && f.Ways[k].State != 0 && (p.Bars[k][way] || inBoth(other.Over, w.Sections) || inBoth(other.Sections, w.Over)) {
			ways = append(ways, k)
		}
	}
	for section, occ := range f.Occ {
		if occ && (slices.Contains(w.Sections, section) || slices.Contains(w.Over, section)) {
			sections = append(sections, section)
		}
	}
	for point, x := range f.Points {
		if need := slowNeed(w, point); need == 0 || x.Want == need {
			continue
		}
		if len(slowWanting(p, f, point)) > 0 {
			wanted = append(wanted, point)
		}
		if f.Occ[p.Switches[point]] {
			under = append(under, point)
		}
	}
	return ways, sections, wanted, under
}

func slowWhyNot(p impl.Plan, f impl.Frame, way int) int {
	if !slowFrame(p, f) || way < 0 || way >= len(p.Ways) {
		return 1
	}
	ways, sections, wanted, under := slowCauses(p, f, way)
	switch {
	case f.Ways[way].State != 0:
		return 2
	case len(ways) > 0:
		return 3
	case len(sections) > 0:
		return 4
	case len(wanted) > 0:
		return 5
	case len(under) > 0:
		return 6
	}
	return 0
}

func slowBlocked(p impl.Plan, f impl.Frame, way int) impl.Stays {
	if !slowFrame(p, f) || way < 0 || way >= len(p.Ways) {
		return impl.Stays{}
	}
	ways, sections, wanted, under := slowCauses(p, f, way)
	points := append(wanted, under...)
	slices.Sort(points)
	return impl.Stays{Ways: ways, Sections: sections, Points: slices.Compact(points)}
}

func slowDoFrame(p impl.Plan, given impl.Frame, e impl.FrameEvent) (int, impl.Frame) {
	if !slowFrame(p, given) || !slowFrameEvent(p, e) {
		return 1, impl.Frame{}
	}
	f := slowCopy(given)
	switch e.Op {
	case 1:
		if code := slowWhyNot(p, f, e.Of); code != 0 {
			return code, f
		}
		f.Ways[e.Of].State = 1
		for point := range f.Points {
			if need := slowNeed(p.Ways[e.Of], point); need != 0 {
				f.Points[point].Want = need
			}
		}
	case 2:
		h := &f.Ways[e.Of]
		if h.State != 1 && h.State != 2 {
			return 2, f
		}
		near := false
		for _, section := range p.Ways[e.Of].Near {
			near = near || f.Occ[section]
		}
		if h.Shown && near {
			h.State, h.Timer = 3, p.Hold
		} else {
			h.State, h.Shown = 0, false
		}
	case 3, 4:
		f.Occ[e.Of] = e.Op == 3
	case 5:
		f.Points[e.Of].Lies = e.Lie
	case 6:
		if len(slowWanting(p, f, e.Of)) > 0 {
			return 2, f
		}
		if f.Occ[p.Switches[e.Of]] {
			return 3, f
		}
		f.Points[e.Of].Want = e.Lie
	case 7:
		for i := range f.Ways {
			if h := &f.Ways[i]; h.State == 3 {
				h.Timer--
				if h.Timer == 0 {
					h.State, h.Shown = 0, false
				}
			}
		}
	}
	return 0, slowSettle(p, f)
}

// wantSlowFrameDone holds DoFrame against what is said above; it answers what is done.
func wantSlowFrameDone(t *testing.T, p impl.Plan, f impl.Frame, e impl.FrameEvent) impl.FrameDone {
	t.Helper()
	code, want := slowDoFrame(p, f, e)
	got := impl.DoFrame(p, f, e)
	if got.Code != code || !sameFrame(got.Frame, want) {
		t.Fatalf("%v\n%s\n%v: Code %d, %s; not %d, %s", p, frameText(f), e, got.Code, frameText(got.Frame), code, frameText(want))
	}
	if code != 1 && !impl.FrameOk(p, got.Frame) {
		t.Fatalf("%v\n%s\n%v: %s is no frame", p, frameText(f), e, frameText(got.Frame))
	}
	return got
}

// wantSlowTold holds what is told of a frame against what is said above, of all that there is and of some that there is not.
func wantSlowTold(t *testing.T, p impl.Plan, f impl.Frame) {
	t.Helper()
	ok := slowFrame(p, f)
	for of := -1; of <= max(len(p.Ways), min(p.Sections, 61), len(p.Switches)); of++ {
		isWay, isPoint := ok && of >= 0 && of < len(p.Ways), ok && of >= 0 && of < len(p.Switches)
		if got := impl.Proved(p, f, of); got != (isWay && slowProved(p, f, of)) {
			t.Fatalf("%v\n%s: Proved of %d is %v", p, frameText(f), of, got)
		}
		if got := impl.LockedBy(p, f, of); got != slowLocked(p, f, of) {
			t.Fatalf("%v\n%s: LockedBy of %d is %d", p, frameText(f), of, got)
		}
		var wanting []int
		if isPoint {
			wanting = slowWanting(p, f, of)
		}
		if got := impl.PointLock(p, f, of); !slices.Equal(got, wanting) {
			t.Fatalf("%v\n%s: PointLock of %d is %v, not %v", p, frameText(f), of, got, wanting)
		}
		if got := impl.WhyNot(p, f, of); got != slowWhyNot(p, f, of) {
			t.Fatalf("%v\n%s: WhyNot of %d is %d, not %d", p, frameText(f), of, got, slowWhyNot(p, f, of))
		}
		if got := impl.Blocked(p, f, of); !sameStays(got, slowBlocked(p, f, of)) {
			t.Fatalf("%v\n%s: Blocked of %d is %v, not %v", p, frameText(f), of, got, slowBlocked(p, f, of))
		}
	}
}

// eachFrameEvent is all events of a plan, and some that are none.
func eachFrameEvent(p impl.Plan) []impl.FrameEvent {
	var out []impl.FrameEvent
	for op := range 9 {
		for of := -1; of <= max(p.Sections, len(p.Switches), len(p.Ways)); of++ {
			for lie := -1; lie <= 3; lie++ {
				out = append(out, impl.FrameEvent{Op: op, Of: of, Lie: lie})
			}
		}
	}
	return out
}

// eachHeld is a way with all that may stand in it, and some that may not.
func eachHeld(sections, hold int) []impl.Held {
	var out []impl.Held
	for state := -1; state <= 5; state++ {
		for gone := -1; gone <= sections; gone++ {
			for been := range 1 << sections {
				for timer := range hold + 2 {
					for shown := range 2 {
						h := impl.Held{State: state, Gone: gone, Timer: timer, Shown: shown > 0}
						for at := range sections {
							h.Been = append(h.Been, been>>at&1 > 0)
						}
						out = append(out, h)
					}
				}
			}
		}
	}
	return out
}

// eachOcc is all that may be so of so many sections.
func eachOcc(sections int) [][]bool {
	var out [][]bool
	for flags := range 1 << sections {
		var occ []bool
		for section := range sections {
			occ = append(occ, flags>>section&1 > 0)
		}
		out = append(out, occ)
	}
	return out
}

// All frames of one way with a switch on it, and all events.
func TestEveryFrameOfOneWay(t *testing.T) {
	p := planOf(t, 4, "1", 2, "", "0 1 | 0:2 | | 2 | 3")
	right, codes := 0, map[int]int{}
	for _, occ := range eachOcc(4) {
		for _, h := range eachHeld(2, p.Hold) {
			for point := range 20 {
				f := impl.Frame{Ok: true, Occ: occ, Points: []impl.Point{{Want: point % 4, Lies: point/4 - 1}}, Ways: []impl.Held{h}}
				want := slowFrame(p, f)
				if got := impl.FrameOk(p, f); got != want {
					t.Fatalf("%s: FrameOk is %v", frameText(f), got)
				}
				if !want {
					continue
				}
				right++
				wantSlowTold(t, p, f)
				for _, e := range eachFrameEvent(p) {
					codes[wantSlowFrameDone(t, p, f, e).Code]++
				}
			}
		}
	}
	if right < 800 {
		t.Errorf("%d frames alone", right)
	}
	for code := range 5 {
		if codes[code] < 50 {
			t.Errorf("Code %d was seen %d times alone", code, codes[code])
		}
	}
}

// All frames of two ways that do not exclude each other: a switch is on the one and beside the other, which ends where the first begins.
func TestEveryFrameOfTwoWays(t *testing.T) {
	p := planOf(t, 3, "1", 2, "", "0 1 | 0:1 | | |", "2 | | 0:2 | | 0")
	codes := map[int]int{}
	for _, occ := range eachOcc(3) {
		for point := range 6 {
			f := impl.Frame{Ok: true, Occ: occ, Points: []impl.Point{{Want: 1 + point%2, Lies: point / 2}}, Ways: impl.BeginFrame(p).Ways}
			for _, a := range eachHeld(2, p.Hold) {
				if !slowHeld(p, 0, a) {
					continue
				}
				for _, b := range eachHeld(1, p.Hold) {
					f.Ways[0], f.Ways[1] = a, b
					ok := slowFrame(p, f)
					if got := impl.FrameOk(p, f); got != ok {
						t.Fatalf("%s: FrameOk is %v", frameText(f), got)
					}
					if !ok {
						continue
					}
					wantSlowTold(t, p, f)
					for _, e := range []string{"ask 0", "ask 1", "back 0", "back 1", "occ 0", "occ 1", "occ 2", "free 0", "free 1", "free 2", "lies 0 0", "lies 0 1", "lies 0 2", "move 0 1", "move 0 2", "tick"} {
						codes[wantSlowFrameDone(t, p, f, eventOf(t, e)).Code]++
					}
				}
			}
		}
	}
	for _, code := range []int{0, 2, 3, 4, 5, 6} {
		if codes[code] < 5 {
			t.Errorf("Code %d was seen %d times alone", code, codes[code])
		}
	}
}

// some is so many of a list, each once, as they fall.
func (d *dice) some(list []int, most int) []int {
	list = slices.Clone(list)
	for i := range list {
		k := i + d.below(len(list)-i)
		list[i], list[k] = list[k], list[i]
	}
	return list[:d.below(min(most, len(list))+1)]
}

// rightPlan is one as it falls, with few sections and ways or with many.
func (d *dice) rightPlan() impl.Plan {
	size := d.below(20) / 19
	p := impl.Plan{Sections: 1 + d.below([]int{14, 60}[size]), Hold: 1 + d.below([]int{4, 300}[d.below(2)])}
	all := from(0, p.Sections)
	for range d.below([]int{6, 41}[size]) {
		p.Switches = append(p.Switches, d.below(p.Sections))
	}
	for range d.below([]int{6, 101}[size]) {
		p.Ways = append(p.Ways, d.rightWay(p, all, []int{3 + d.below(2), 30}[size]))
	}
	for i := range p.Ways {
		p.Bars = append(p.Bars, make([]bool, len(p.Ways)))
		p.Bars[i][i] = d.below(2) == 0
		for k := range i {
			bar(&p, i, k, inBoth(p.Ways[i].Sections, p.Ways[k].Sections) || d.below(10) == 0)
		}
	}
	return p
}

func (d *dice) rightWay(p impl.Plan, all []int, most int) impl.Way {
	first := d.below(p.Sections)
	w := impl.Way{Sections: []int{first}, Near: d.some(all, most)}
	for _, section := range d.some(all, most-1) {
		if section != first {
			w.Sections = append(w.Sections, section)
		}
	}
	for _, section := range d.some(all, most/2) {
		if !slices.Contains(w.Sections, section) {
			w.Over = append(w.Over, section)
		}
	}
	for _, point := range d.some(from(0, len(p.Switches)), 30) {
		turn := impl.Turn{Switch: point, Lie: 1 + d.below(2)}
		switch {
		case slices.Contains(w.Sections, p.Switches[point]) && d.below(4) > 0:
			w.Lies = append(w.Lies, turn)
		case d.below(2) == 0:
			w.Flanks = append(w.Flanks, turn)
		}
	}
	return w
}

// frameEvent is most often one of the plan, and of a way that is held or of its train.
func (d *dice) frameEvent(p impl.Plan) impl.FrameEvent {
	e := impl.FrameEvent{Op: []int{1, 1, 1, 2, 3, 3, 4, 4, 4, 4, 5, 5, 5, 6, 7}[d.below(15)]}
	switch e.Op {
	case 1, 2:
		e.Of = d.below(max(1, len(p.Ways)))
	case 3, 4:
		e.Of = d.below(max(1, min(60, p.Sections)))
	case 5:
		e.Of, e.Lie = d.below(max(1, len(p.Switches))), d.below(3)
	case 6:
		e.Of, e.Lie = d.below(max(1, len(p.Switches))), 1+d.below(2)
	}
	switch d.below(40) {
	case 0:
		e.Op = d.number()
	case 1:
		e.Of = d.number()
	case 2:
		e.Lie = d.number()
	}
	return e
}

// lead is an event that brings a way on from where it is: its switches come to lie as it needs them, its train goes on or goes away.
func (d *dice) lead(p impl.Plan, f impl.Frame) impl.FrameEvent {
	if len(p.Ways) == 0 {
		return impl.FrameEvent{Op: impl.ETick}
	}
	i := d.below(len(p.Ways))
	w, h := p.Ways[i], f.Ways[i]
	switch h.State {
	case impl.WSet, impl.WClear:
		for point, x := range f.Points {
			if need := slowNeed(w, point); need != 0 && x.Lies != need {
				return impl.FrameEvent{Op: impl.ELies, Of: point, Lie: need}
			}
		}
		if len(w.Near) > 0 && d.below(3) == 0 {
			return impl.FrameEvent{Op: impl.EOcc, Of: w.Near[d.below(len(w.Near))]}
		}
		if d.below(3) == 0 {
			return impl.FrameEvent{Op: impl.EBack, Of: i}
		}
		return impl.FrameEvent{Op: impl.EOcc, Of: w.Sections[0]}
	case impl.WUsed:
		if next := slices.Index(h.Been, false); next >= 0 && d.below(2) == 0 {
			return impl.FrameEvent{Op: impl.EOcc, Of: w.Sections[next]}
		}
		return impl.FrameEvent{Op: impl.EFree, Of: w.Sections[h.Gone]}
	case impl.WTaking:
		return impl.FrameEvent{Op: impl.ETick}
	}
	return impl.FrameEvent{Op: impl.EAsk, Of: i}
}

func TestFrameLongRuns(t *testing.T) {
	d := &dice{state: 21}
	seen := map[string]int{}
	for range 400 {
		p := d.rightPlan()
		if got := impl.PlanOk(p); got != fault(0, 0) {
			t.Fatalf("%v: PlanOk is %v", p, got)
		}
		f := impl.BeginFrame(p)
		steps := 150
		if len(p.Ways) > 10 {
			steps = 40
		}
		for step := range steps {
			e := d.frameEvent(p)
			if d.below(2) == 0 {
				e = d.lead(p, f)
			}
			got := wantSlowFrameDone(t, p, f, e)
			seen["code "+strconv.Itoa(got.Code)+" of "+strconv.Itoa(e.Op)]++
			if got.Code == 1 {
				continue
			}
			for i, h := range got.Frame.Ways {
				seen[strconv.Itoa(f.Ways[i].State)+" to "+strconv.Itoa(h.State)]++
			}
			f = got.Frame
			if step%10 == 0 {
				wantSlowTold(t, p, f)
			}
		}
	}
	for _, kind := range []string{
		"code 0 of 1", "code 2 of 1", "code 3 of 1", "code 4 of 1", "code 5 of 1", "code 6 of 1", "code 0 of 2", "code 2 of 2", "code 0 of 3", "code 0 of 4", "code 0 of 5", "code 0 of 6", "code 2 of 6", "code 3 of 6", "code 0 of 7",
		"0 to 1", "0 to 2", "1 to 0", "1 to 2", "1 to 3", "1 to 4", "2 to 0", "2 to 1", "2 to 3", "2 to 4", "3 to 0", "3 to 4", "4 to 0", "4 to 4",
	} {
		if seen[kind] < 20 {
			t.Errorf("%s was seen %d times alone", kind, seen[kind])
		}
	}
}

// anyPlan is a right one, or one with some of it thrown about.
func (d *dice) anyPlan() impl.Plan {
	p := d.rightPlan()
	if d.below(3) > 0 || len(p.Ways) == 0 {
		return p
	}
	i := d.below(len(p.Ways))
	w := &p.Ways[i]
	switch d.below(12) {
	case 0:
		p.Sections = d.number()
	case 1:
		p.Hold = d.number()
	case 2:
		p.Switches = append(p.Switches, d.number())
	case 3:
		w.Sections = append(w.Sections, d.place(9))
	case 4:
		w.Over = append(w.Over, d.place(9))
	case 5:
		w.Near = append(w.Near, d.place(9))
	case 6:
		w.Lies = append(w.Lies, impl.Turn{Switch: d.place(5), Lie: d.place(4)})
	case 7:
		w.Flanks = append(w.Flanks, impl.Turn{Switch: d.place(5), Lie: d.place(4)})
	case 8:
		p.Bars = p.Bars[:d.below(len(p.Bars))]
	case 9:
		p.Bars[i] = append(p.Bars[i], true)
	case 10:
		k := d.below(len(p.Ways))
		p.Bars[i][k] = !p.Bars[i][k]
	case 11:
		bar(&p, i, d.below(len(p.Ways)), false)
	}
	return p
}

// anyFrame is one that a run comes to, or one with some of it thrown about.
func (d *dice) anyFrame(p impl.Plan) impl.Frame {
	f := impl.BeginFrame(p)
	for range d.below(25) {
		e := d.frameEvent(p)
		if f.Ok && d.below(3) > 0 {
			e = d.lead(p, f)
		}
		if done := impl.DoFrame(p, f, e); done.Code != 1 {
			f = done.Frame
		}
	}
	if d.below(2) == 0 || len(f.Ways) == 0 {
		return f
	}
	h := &f.Ways[d.below(len(f.Ways))]
	switch d.below(11) {
	case 0:
		h.State = d.place(5)
	case 1:
		h.Gone = d.place(4)
	case 2:
		h.Shown = !h.Shown
	case 3:
		h.Timer = d.place(4)
	case 4:
		at := d.below(len(h.Been))
		h.Been[at] = !h.Been[at]
	case 5:
		h.Been = append(h.Been, d.below(2) == 0)
	case 6:
		section := d.below(len(f.Occ))
		f.Occ[section] = !f.Occ[section]
	case 7:
		f.Ok = false
	case 8:
		f.Ways = f.Ways[:d.below(len(f.Ways))]
	case 9:
		f.Occ = append(f.Occ, false)
	case 10:
		if len(f.Points) > 0 {
			f.Points[d.below(len(f.Points))] = impl.Point{Want: d.place(4), Lies: d.place(4)}
		}
	}
	return f
}

// Whatever stands in the arguments: what is said is answered, twice the same, in memory of its own, and nothing is written into them.
func TestFrameAnyArgument(t *testing.T) {
	d := &dice{state: 22}
	seen := map[string]int{}
	for i := range 6000 {
		p := copyPlan(d.anyPlan())
		f := copyFrame(d.anyFrame(p))
		e := d.frameEvent(p)
		if d.below(2) == 0 {
			e = impl.FrameEvent{Op: impl.EAsk, Of: d.below(6)}
		}
		beforePlan, beforeFrame := wholePlan(copyPlan(p)), wholeFrame(copyFrame(f))
		what := "case " + strconv.Itoa(i)
		right := slowPlan(p)
		if got := impl.PlanOk(p); got != right {
			t.Fatalf("%s: %v: PlanOk is %v, not %v", what, p, got, right)
		}
		if got := impl.FrameEventOk(p, e); got != slowFrameEvent(p, e) {
			t.Fatalf("%s: %v: FrameEventOk of %v is %v", what, p, e, got)
		}
		ok := impl.FrameOk(p, f)
		if ok != slowFrame(p, f) {
			t.Fatalf("%s: %v: FrameOk of %s is %v", what, p, frameText(f), ok)
		}
		begin, done := impl.BeginFrame(p), wantSlowFrameDone(t, p, f, e)
		if len(p.Ways) < 10 || i%20 == 0 {
			wantSlowTold(t, p, f)
		}
		of := d.place(6)
		lock, blocked := impl.PointLock(p, f, of), impl.Blocked(p, f, of)
		if !sameFrame(begin, impl.BeginFrame(p)) || !sameFrame(done.Frame, impl.DoFrame(p, f, e).Frame) || !sameStays(blocked, impl.Blocked(p, f, of)) || !slices.Equal(lock, impl.PointLock(p, f, of)) {
			t.Fatalf("%s: another answer at the same argument", what)
		}
		if !reflect.DeepEqual(wholePlan(p), beforePlan) || !reflect.DeepEqual(wholeFrame(f), beforeFrame) {
			t.Fatalf("%s: something is written into an argument", what)
		}
		wantApart(t, what+": BeginFrame", begin, p)
		wantApart(t, what+": DoFrame", done, p, f)
		wantApart(t, what+": PointLock", lock, p, f)
		wantApart(t, what+": Blocked", blocked, p, f)
		seen["plan "+strconv.Itoa(right.Code)]++
		seen["frame "+strconv.FormatBool(ok)]++
		seen["code "+strconv.Itoa(done.Code)]++
	}
	for _, kind := range []string{"plan 0", "plan 1", "plan 2", "plan 3", "plan 4", "plan 5", "frame true", "frame false", "code 0", "code 1", "code 2", "code 3", "code 4"} {
		if seen[kind] < 15 {
			t.Errorf("%s was seen %d times alone", kind, seen[kind])
		}
	}
}

func (d *dice) wildNumbers() []int {
	var out []int
	for range d.below(3) {
		out = append(out, d.number())
	}
	return out
}

func (d *dice) wildTurns() []impl.Turn {
	var out []impl.Turn
	for range d.below(3) {
		out = append(out, impl.Turn{Switch: d.number(), Lie: d.number()})
	}
	return out
}

func (d *dice) wildFlags() []bool {
	return make([]bool, d.below(4))
}

// Numbers that are none at all, in every place, in a plan that is right and in one that is not.
func TestFrameWildNumbers(t *testing.T) {
	d := &dice{state: 23}
	for i := range 20000 {
		p := fork(t)
		if i%2 == 0 {
			p = impl.Plan{Sections: d.number(), Switches: d.wildNumbers(), Hold: d.number()}
			for range d.below(3) {
				p.Ways = append(p.Ways, impl.Way{Sections: d.wildNumbers(), Lies: d.wildTurns(), Flanks: d.wildTurns(), Over: d.wildNumbers(), Near: d.wildNumbers()})
				p.Bars = append(p.Bars, d.wildFlags())
			}
		}
		f := impl.Frame{Ok: d.below(4) > 0, Occ: make([]bool, max(0, min(100, p.Sections)))}
		for range p.Switches {
			f.Points = append(f.Points, impl.Point{Want: d.number(), Lies: d.number()})
		}
		for _, w := range p.Ways {
			f.Ways = append(f.Ways, impl.Held{State: d.number(), Gone: d.number(), Been: make([]bool, len(w.Sections)), Shown: d.below(2) == 0, Timer: d.number()})
		}
		if d.below(4) == 0 {
			f.Occ = d.wildFlags()
		}
		e := impl.FrameEvent{Op: d.number(), Of: d.number(), Lie: d.number()}
		of := d.number()
		if impl.PlanOk(p) != slowPlan(p) || impl.FrameEventOk(p, e) != slowFrameEvent(p, e) || impl.FrameOk(p, f) != slowFrame(p, f) {
			t.Fatalf("%v %v %v", p, f, e)
		}
		if impl.LockedBy(p, f, of) != slowLocked(p, f, of) || impl.WhyNot(p, f, of) != slowWhyNot(p, f, of) || !sameStays(impl.Blocked(p, f, of), slowBlocked(p, f, of)) {
			t.Fatalf("%v %v %d", p, f, of)
		}
		if impl.Proved(p, f, of) && !slowFrame(p, f) || len(impl.PointLock(p, f, of)) > 0 && !slowFrame(p, f) {
			t.Fatalf("%v %v %d", p, f, of)
		}
		wantSlowFrameDone(t, p, f, e)
		if got := impl.BeginFrame(p); got.Ok != (slowPlan(p) == fault(0, 0)) {
			t.Fatalf("%v: BeginFrame is %v", p, got)
		}
	}
}

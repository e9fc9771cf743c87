package tests

import (
	"reflect"
	"slices"
	"strconv"
	"testing"

	"loop.example/signalbox/impl"
)

// What chapter 4 says, sentence by sentence and with no care for time: the answers of the program are held against it.

func slowLayout(l impl.Layout) int {
	if l.Sections < 1 || l.Sections > 60 || len(l.Counters) > 120 {
		return 1
	}
	sides := []int{-1}
	for section := range l.Sections {
		sides = append(sides, section)
	}
	for _, c := range l.Counters {
		from, to := slices.Index(sides, c.From), slices.Index(sides, c.To)
		if from < 0 || to < 0 || from == to {
			return 2
		}
	}
	return 0
}

func slowAround(l impl.Layout, section int) []int {
	var out []int
	if slowLayout(l) != 0 || section < 0 || section >= l.Sections {
		return out
	}
	for k, c := range l.Counters {
		if slices.Contains([]int{c.From, c.To}, section) {
			out = append(out, k)
		}
	}
	return out
}

func slowTold(l impl.Layout, s impl.CountState, section int) int {
	for _, k := range slowAround(l, section) {
		if s.Dead[k] {
			return 3
		}
	}
	x := s.Sections[section]
	if x.Lost {
		return 1
	}
	if x.Sweep {
		return 2
	}
	if x.Count != 0 {
		return 1
	}
	return 0
}

func slowState(l impl.Layout, s impl.CountState) bool {
	if slowLayout(l) != 0 || !s.Ok || len(s.Sections) != l.Sections || len(s.Dead) != len(l.Counters) {
		return false
	}
	for section, x := range s.Sections {
		told := slowTold(l, s, section)
		mustBeLost := x.Count < 0 || told == 3
		swept := x.Sweep && x.Count == 0 && x.Last == -1
		if x.Count < -1000000 || x.Count > 1000000 || x.Last < -1 || x.Last > 1 || x.Told != told || !x.Lost && (mustBeLost || swept) {
			return false
		}
	}
	return true
}

func slowEvent(l impl.Layout, e impl.CountEvent) bool {
	if slowLayout(l) != 0 || e.Of < 0 {
		return false
	}
	many, dirs := len(l.Counters), []int{0}
	switch e.Op {
	case 1, 2:
		dirs = []int{-1, 1}
	case 3, 4:
	case 5:
		many = l.Sections
	default:
		return false
	}
	return e.Of < many && slices.Contains(dirs, e.Dir)
}

// slowCounted is a section into which one was counted (by 1), or out of which (by -1).
func slowCounted(x impl.Section, by int) impl.Section {
	x.Count = min(1000000, max(-1000000, x.Count+by))
	x.Last = by
	x.Lost = x.Lost || x.Count < 0
	x.Sweep = x.Sweep && !(by == -1 && x.Count == 0)
	return x
}

func slowDo(l impl.Layout, s impl.CountState, e impl.CountEvent) (int, impl.CountState) {
	if !slowState(l, s) || !slowEvent(l, e) {
		return 1, impl.CountState{}
	}
	out := impl.CountState{Ok: true, Sections: slices.Clone(s.Sections), Dead: slices.Clone(s.Dead)}
	each := func(of int, do func(impl.Section) impl.Section) {
		if of >= 0 {
			out.Sections[of] = do(out.Sections[of])
		}
	}
	lost := func(x impl.Section) impl.Section { x.Lost = true; return x }
	switch e.Op {
	case 1, 2:
		if s.Dead[e.Of] {
			return 2, out
		}
		from, to := l.Counters[e.Of].From, l.Counters[e.Of].To
		if e.Dir < 0 {
			from, to = to, from
		}
		if e.Op == 1 {
			each(from, func(x impl.Section) impl.Section { return slowCounted(x, -1) })
		}
		each(to, func(x impl.Section) impl.Section { return slowCounted(x, 1) })
	case 3:
		out.Dead[e.Of] = true
		each(l.Counters[e.Of].From, lost)
		each(l.Counters[e.Of].To, lost)
	case 4:
		out.Dead[e.Of] = false
	case 5:
		if s.Sections[e.Of].Told == 3 {
			return 3, out
		}
		if s.Sections[e.Of].Last == 1 {
			return 4, out
		}
		each(e.Of, func(impl.Section) impl.Section { return impl.Section{Sweep: true} })
	}
	for section := range out.Sections {
		out.Sections[section].Told = slowTold(l, out, section)
	}
	return 0, out
}

func roomyLayout(l impl.Layout) impl.Layout {
	l.Counters = roomy(l.Counters, counter(7, 7))
	return l
}

func roomyState(s impl.CountState) impl.CountState {
	s.Sections = roomy(s.Sections, impl.Section{Told: 7, Count: 7, Last: 7})
	s.Dead = roomy(s.Dead, true)
	return s
}

func wholeLayout(l impl.Layout) impl.Layout {
	l.Counters = l.Counters[:cap(l.Counters)]
	return l
}

func wholeState(s impl.CountState) impl.CountState {
	s.Sections, s.Dead = s.Sections[:cap(s.Sections)], s.Dead[:cap(s.Dead)]
	return s
}

func sameState(a, b impl.CountState) bool {
	return a.Ok == b.Ok && slices.Equal(a.Sections, b.Sections) && slices.Equal(a.Dead, b.Dead)
}

// wantSlowDone holds DoCount and CountOk against what is said above; it answers what is done.
func wantSlowDone(t *testing.T, l impl.Layout, s impl.CountState, e impl.CountEvent) impl.CountDone {
	t.Helper()
	code, want := slowDo(l, s, e)
	got := impl.DoCount(l, s, e)
	if got.Code != code || !sameState(got.State, want) {
		t.Fatalf("%v\n%s\n%v: Code %d, %s; not %d, %s", l, countText(s), e, got.Code, countText(got.State), code, countText(want))
	}
	if code != 1 && !impl.CountOk(l, got.State) {
		t.Fatalf("%v\n%s\n%v: %s is no state", l, countText(s), e, countText(got.State))
	}
	return got
}

// allSections are sections with all that may stand in them, and some that may not.
func allSections() []impl.Section {
	var out []impl.Section
	for told := range 4 {
		for _, count := range []int{-1000001, -1000000, -999999, -2, -1, 0, 1, 2, 999999, 1000000, 1000001} {
			for last := -2; last <= 2; last++ {
				for flags := range 4 {
					out = append(out, impl.Section{Told: told, Count: count, Last: last, Lost: flags&1 > 0, Sweep: flags&2 > 0})
				}
			}
		}
	}
	return out
}

// eachEvent is all events of a layout, and some that are none.
func eachEvent(l impl.Layout) []impl.CountEvent {
	var out []impl.CountEvent
	for op := range 7 {
		for of := -1; of <= max(l.Sections, len(l.Counters)); of++ {
			for dir := -2; dir <= 2; dir++ {
				out = append(out, impl.CountEvent{Op: op, Of: of, Dir: dir})
			}
		}
	}
	return out
}

func TestEverySection(t *testing.T) {
	codes := map[int]int{}
	for _, l := range []impl.Layout{layout(1), layout(1, counter(-1, 0)), layout(1, counter(0, -1), counter(-1, 0))} {
		for flags := range 1 << len(l.Counters) {
			for _, x := range allSections() {
				s := impl.CountState{Ok: true, Sections: []impl.Section{x}}
				for k := range l.Counters {
					s.Dead = append(s.Dead, flags>>k&1 > 0)
				}
				if got, want := impl.CountOk(l, s), slowState(l, s); got != want {
					t.Fatalf("%v %s: CountOk is %v", l, countText(s), got)
				}
				for _, e := range eachEvent(l) {
					codes[wantSlowDone(t, l, s, e).Code]++
				}
			}
		}
	}
	for code := range 5 {
		if codes[code] < 50 {
			t.Errorf("Code %d was seen %d times alone", code, codes[code])
		}
	}
}

// All states of two sections that stand beside each other, with small counts.
func TestEveryTwoSections(t *testing.T) {
	l := layout(2, counter(0, 1), counter(-1, 0))
	var right []impl.Section
	for _, x := range allSections() {
		if x.Count >= -1 && x.Count <= 2 && x.Last >= -1 && x.Last <= 1 {
			right = append(right, x)
		}
	}
	asked := 0
	for flags := range 4 {
		for _, a := range right {
			for _, b := range right {
				s := impl.CountState{Ok: true, Sections: []impl.Section{a, b}, Dead: []bool{flags&1 > 0, flags&2 > 0}}
				if !slowState(l, s) {
					continue
				}
				for _, e := range []impl.CountEvent{pass(0, 1), pass(0, -1), pass(1, 1), pass(1, -1), ghost(0, 1), ghost(0, -1), dead(0), dead(1), alive(0), alive(1), reset(0), reset(1)} {
					wantSlowDone(t, l, s, e)
					asked++
				}
			}
		}
	}
	if asked < 10000 {
		t.Errorf("%d events alone", asked)
	}
}

// rightLayout is one as it falls, with few sections or with many.
func (d *dice) rightLayout() impl.Layout {
	l := layout(1 + d.below([]int{3, 6, 60}[d.below(3)]))
	for range d.below([]int{4, 9, 121}[d.below(3)]) {
		c := counter(d.below(l.Sections+1)-1, d.below(l.Sections+1)-1)
		if c.From != c.To {
			l.Counters = append(l.Counters, c)
		}
	}
	return l
}

// event is most often one of the layout.
func (d *dice) event(l impl.Layout) impl.CountEvent {
	many := max(1, len(l.Counters))
	e := impl.CountEvent{Op: []int{1, 1, 1, 1, 2, 3, 4, 4, 5, 5}[d.below(10)]}
	switch e.Op {
	case 1, 2:
		e.Dir = 2*d.below(2) - 1
	case 5:
		many = max(1, min(60, l.Sections))
	}
	e.Of = d.below(many)
	switch d.below(30) {
	case 0:
		e.Op = d.number()
	case 1:
		e.Of = d.number()
	case 2:
		e.Dir = d.number()
	}
	return e
}

func TestLongRuns(t *testing.T) {
	d := &dice{state: 11}
	codes, told := map[int]int{}, map[int]int{}
	for range 300 {
		l := d.rightLayout()
		s := impl.BeginCount(l)
		for range 150 {
			got := wantSlowDone(t, l, s, d.event(l))
			codes[got.Code]++
			if got.Code == 1 {
				continue
			}
			s = got.State
			for _, x := range s.Sections {
				told[x.Told]++
			}
		}
	}
	for code := range 5 {
		if codes[code] < 100 {
			t.Errorf("Code %d was seen %d times alone", code, codes[code])
		}
	}
	for sign := range 4 {
		if told[sign] < 100 {
			t.Errorf("%d was told %d times alone", sign, told[sign])
		}
	}
}

// anyLayout is a right one, or one with some of it thrown about.
func (d *dice) anyLayout() impl.Layout {
	l := d.rightLayout()
	if d.below(3) > 0 {
		return l
	}
	switch d.below(4) {
	case 0:
		l.Sections = d.number()
	case 1:
		l.Counters = append(l.Counters, fence(1, d.below(130)).Counters...)
	default:
		if len(l.Counters) > 0 {
			l.Counters[d.below(len(l.Counters))] = counter(d.place(5), d.number())
		}
	}
	return l
}

// anyState is one that a run comes to, or one with some of it thrown about.
func (d *dice) anyState(l impl.Layout) impl.CountState {
	s := impl.BeginCount(l)
	for range d.below(20) {
		if done := impl.DoCount(l, s, d.event(l)); done.Code != 1 {
			s = done.State
		}
	}
	if d.below(2) == 0 || len(s.Sections) == 0 {
		return s
	}
	x := &s.Sections[d.below(len(s.Sections))]
	switch d.below(9) {
	case 0:
		x.Told = d.number()
	case 1:
		x.Count = d.number()
	case 2:
		x.Last = d.number()
	case 3:
		x.Lost = !x.Lost
	case 4:
		x.Sweep = !x.Sweep
	case 5:
		s.Ok = false
	case 6:
		s.Sections = s.Sections[:d.below(len(s.Sections))]
	case 7:
		s.Dead = append(s.Dead, d.below(2) == 0)
	case 8:
		if len(s.Dead) > 0 {
			k := d.below(len(s.Dead))
			s.Dead[k] = !s.Dead[k]
		}
	}
	return s
}

// Whatever stands in the arguments: what is said is answered, twice the same, in memory of its own, and nothing is written into them.
func TestCountAnyArgument(t *testing.T) {
	d := &dice{state: 12}
	seen := map[string]int{}
	for i := range 20000 {
		l := roomyLayout(d.anyLayout())
		s := roomyState(d.anyState(l))
		e := d.event(l)
		section := d.place(4)
		beforeLayout, beforeState := wholeLayout(roomyLayout(l)), wholeState(roomyState(s))
		what := "case " + strconv.Itoa(i)
		if got, want := impl.LayoutOk(l), slowLayout(l); got != want {
			t.Fatalf("%s: %v: LayoutOk is %d, not %d", what, l, got, want)
		}
		around := impl.Around(l, section)
		if !slices.Equal(around, slowAround(l, section)) {
			t.Fatalf("%s: %v: Around %d is %v", what, l, section, around)
		}
		if got := impl.CountEventOk(l, e); got != slowEvent(l, e) {
			t.Fatalf("%s: %v: CountEventOk of %v is %v", what, l, e, got)
		}
		ok := impl.CountOk(l, s)
		if ok != slowState(l, s) {
			t.Fatalf("%s: %v: CountOk of %s is %v", what, l, countText(s), ok)
		}
		begin, done := impl.BeginCount(l), wantSlowDone(t, l, s, e)
		if !sameState(begin, impl.BeginCount(l)) || !sameState(done.State, impl.DoCount(l, s, e).State) || !slices.Equal(around, impl.Around(l, section)) {
			t.Fatalf("%s: another answer at the same argument", what)
		}
		if !reflect.DeepEqual(wholeLayout(l), beforeLayout) || !reflect.DeepEqual(wholeState(s), beforeState) {
			t.Fatalf("%s: something is written into an argument", what)
		}
		wantApart(t, what+": Around", around, l)
		wantApart(t, what+": BeginCount", begin, l)
		wantApart(t, what+": DoCount", done, l, s)
		seen["layout "+strconv.Itoa(slowLayout(l))]++
		seen["state "+strconv.FormatBool(ok)]++
		seen["code "+strconv.Itoa(done.Code)]++
	}
	for _, kind := range []string{"layout 0", "layout 1", "layout 2", "state true", "state false", "code 0", "code 1", "code 2", "code 3", "code 4"} {
		if seen[kind] < 100 {
			t.Errorf("%s was seen %d times alone", kind, seen[kind])
		}
	}
}

// Numbers that are none at all, in every place.
func TestCountWildNumbers(t *testing.T) {
	d := &dice{state: 13}
	for range 20000 {
		l := impl.Layout{Sections: d.number()}
		for range d.below(3) {
			l.Counters = append(l.Counters, counter(d.number(), d.number()))
		}
		s := impl.CountState{Ok: d.below(4) > 0}
		for range d.below(4) {
			s.Sections = append(s.Sections, impl.Section{Told: d.number(), Count: d.number(), Lost: d.below(2) == 0, Sweep: d.below(2) == 0, Last: d.number()})
		}
		for range d.below(3) {
			s.Dead = append(s.Dead, d.below(2) == 0)
		}
		e := impl.CountEvent{Op: d.number(), Of: d.number(), Dir: d.number()}
		section := d.number()
		if impl.LayoutOk(l) != slowLayout(l) || !slices.Equal(impl.Around(l, section), slowAround(l, section)) || impl.CountEventOk(l, e) != slowEvent(l, e) || impl.CountOk(l, s) != slowState(l, s) {
			t.Fatalf("%v %v %v %d", l, s, e, section)
		}
		wantSlowDone(t, l, s, e)
		if got := impl.BeginCount(l); got.Ok != (slowLayout(l) == 0) {
			t.Fatalf("%v: BeginCount is %v", l, got)
		}
	}
}

package tests

import (
	"reflect"
	"strconv"
	"testing"

	"loop.example/signalbox/impl"
)

func wantPlan(t *testing.T, what string, p impl.Plan, want impl.Fault) {
	t.Helper()
	if got := impl.PlanOk(p); got != want {
		t.Errorf("%s: PlanOk is %v, not %v", what, got, want)
	}
}

// from is so many numbers, one behind the other.
func from(first, count int) []int {
	var out []int
	for i := range count {
		out = append(out, first+i)
	}
	return out
}

// turns is so many switches, one behind the other.
func turns(first, count int) []impl.Turn {
	var out []impl.Turn
	for i := range count {
		out = append(out, impl.Turn{Switch: first + i, Lie: 1 + i%2})
	}
	return out
}

// great has as many of all as there may be; its ways have all switches in section 0, and exclude each other.
func great(ways int) impl.Plan {
	p := impl.Plan{Sections: 60, Switches: make([]int, 40), Hold: 300}
	for range ways {
		p.Ways = append(p.Ways, impl.Way{Sections: from(0, 30), Lies: turns(0, 30), Flanks: turns(30, 10), Over: from(30, 30), Near: from(15, 30)})
		row := make([]bool, ways)
		spoil(row, true)
		p.Bars = append(p.Bars, row)
	}
	return p
}

func TestPlanRight(t *testing.T) {
	wantPlan(t, "fork", fork(t), fault(0, 0))
	wantPlan(t, "lane", lane(t, 1), fault(0, 0))
	wantPlan(t, "no ways and switches", impl.Plan{Sections: 1, Hold: 1}, fault(0, 0))
	wantPlan(t, "empty lists", impl.Plan{Sections: 1, Hold: 1, Switches: []int{}, Ways: []impl.Way{}, Bars: [][]bool{}}, fault(0, 0))
	wantPlan(t, "as much as there may be", great(100), fault(0, 0))
	for i := range 5 {
		p := fork(t)
		bar(&p, i, i, true)
		wantPlan(t, "a way that excludes itself", p, fault(0, 0))
	}
	p := fork(t)
	for i := range 5 {
		for k := range 5 {
			p.Bars[i][k] = true
		}
	}
	wantPlan(t, "all exclude all", p, fault(0, 0))
	p = fork(t)
	p.Ways[0].Near = []int{0, 1, 2, 4, 7}
	wantPlan(t, "Near has Sections and Over in it", p, fault(0, 0))
	p.Ways[2].Flanks = turnsOf(t, "2:2 1:1 0:2")
	wantPlan(t, "Flanks of any section", p, fault(0, 0))
	p.Ways[3].Over, p.Ways[4].Over = []int{0, 1, 2, 4}, []int{4, 7}
	wantPlan(t, "sections in Over of several", p, fault(0, 0))
}

func TestPlanHowMany(t *testing.T) {
	for _, c := range []struct {
		number int
		right  bool
	}{{farBelow, false}, {-1, false}, {0, false}, {1, true}, {2, true}, {59, true}, {60, true}, {61, false}, {farAbove, false}} {
		want := fault(1, 0)
		if c.right {
			want = fault(0, 0)
		}
		wantPlan(t, strconv.Itoa(c.number)+" sections", impl.Plan{Sections: c.number, Hold: 1}, want)
	}
	for _, c := range []struct {
		number int
		right  bool
	}{{farBelow, false}, {-1, false}, {0, false}, {1, true}, {299, true}, {300, true}, {301, false}, {farAbove, false}} {
		want := fault(1, 0)
		if c.right {
			want = fault(0, 0)
		}
		wantPlan(t, "Hold "+strconv.Itoa(c.number), lane(t, c.number), want)
	}
	for _, c := range []struct {
		number int
		want   impl.Fault
	}{{0, fault(0, 0)}, {39, fault(0, 0)}, {40, fault(0, 0)}, {41, fault(1, 0)}, {100000, fault(1, 0)}} {
		p := lane(t, 1)
		p.Switches = make([]int, c.number)
		wantPlan(t, strconv.Itoa(c.number)+" switches", p, c.want)
	}
	for _, c := range []struct {
		number int
		want   impl.Fault
	}{{1, fault(0, 0)}, {99, fault(0, 0)}, {100, fault(0, 0)}, {101, fault(1, 0)}, {1000, fault(1, 0)}} {
		wantPlan(t, strconv.Itoa(c.number)+" ways", great(c.number), c.want)
	}
}

func TestPlanSwitches(t *testing.T) {
	for k := range 3 {
		for _, section := range []int{farBelow, -1, 8, 9, 60, 1 << 32, farAbove} {
			p := fork(t)
			p.Switches[k] = section
			wantPlan(t, "switch in section "+strconv.Itoa(section), p, fault(2, k))
		}
	}
	for _, section := range []int{0, 3, 7} {
		p := fork(t)
		p.Switches = append(p.Switches, section)
		wantPlan(t, "another switch in section "+strconv.Itoa(section), p, fault(0, 0))
	}
}

// lists are all lists of sections of a way.
func lists(w *impl.Way) map[string]*[]int {
	return map[string]*[]int{"Sections": &w.Sections, "Over": &w.Over, "Near": &w.Near}
}

func TestPlanSectionsOfWays(t *testing.T) {
	for i := range 5 {
		for name := range lists(&impl.Way{}) {
			for _, section := range []int{farBelow, -1, 8, 60, 64, 128, 1 << 32, farAbove} {
				p := fork(t)
				list := lists(&p.Ways[i])[name]
				*list = append(*list, section)
				wantPlan(t, "section "+strconv.Itoa(section)+" in "+name, p, fault(3, i))
			}
			p := fork(t)
			list := lists(&p.Ways[i])[name]
			if len(*list) > 0 {
				*list = append(*list, (*list)[0])
				wantPlan(t, "a section twice in "+name, p, fault(3, i))
			}
		}
		p := fork(t)
		p.Ways[i].Sections = nil
		wantPlan(t, "no Sections", p, fault(3, i))
		p.Ways[i] = impl.Way{}
		wantPlan(t, "nothing in a way", p, fault(3, i))
		for _, section := range fork(t).Ways[i].Sections {
			p := fork(t)
			p.Ways[i].Over = append(p.Ways[i].Over, section)
			wantPlan(t, "section "+strconv.Itoa(section)+" in Sections and Over", p, fault(3, i))
		}
	}
	p := great(3)
	p.Ways[1].Over[29] = 29
	wantPlan(t, "the last of Sections and the last of Over", p, fault(3, 1))
}

func TestPlanHowManyInAList(t *testing.T) {
	for _, c := range []struct {
		what string
		of   func(many int) impl.Way
	}{
		{"Sections", func(many int) impl.Way { return impl.Way{Sections: from(0, many)} }},
		{"Over", func(many int) impl.Way { return impl.Way{Sections: []int{0}, Over: from(1, many)} }},
		{"Near", func(many int) impl.Way { return impl.Way{Sections: []int{0}, Near: from(0, many)} }},
		{"Lies", func(many int) impl.Way { return impl.Way{Sections: []int{0}, Lies: turns(0, many)} }},
		{"Flanks", func(many int) impl.Way { return impl.Way{Sections: []int{0}, Flanks: turns(0, many)} }},
	} {
		for many, want := range map[int]impl.Fault{29: fault(0, 0), 30: fault(0, 0), 31: fault(3, 1), 32: fault(3, 1), 40: fault(3, 1)} {
			p := great(3)
			p.Ways[1] = c.of(many)
			wantPlan(t, strconv.Itoa(many)+" in "+c.what, p, want)
		}
		p := great(1)
		p.Ways[0] = c.of(100000)
		wantPlan(t, "very many in "+c.what, p, fault(3, 0))
	}
	p := great(1)
	p.Ways[0].Lies, p.Ways[0].Flanks = turns(0, 20), turns(20, 20)
	wantPlan(t, "40 in Lies and Flanks", p, fault(0, 0))
}

func TestPlanTurns(t *testing.T) {
	for _, c := range []struct {
		what         string
		lies, flanks string
		want         impl.Fault
	}{
		{"left and right", "0:1 1:2", "2:1", fault(0, 0)},
		{"all in Flanks", "", "2:1 0:2 1:1", fault(0, 0)},
		{"none", "", "", fault(0, 0)},
		{"twice in Lies", "0:1 1:1 0:1", "", fault(3, 1)},
		{"twice in Lies, otherwise", "0:1 0:2", "", fault(3, 1)},
		{"twice in Flanks", "", "2:1 0:1 2:1", fault(3, 1)},
		{"twice in Flanks, otherwise", "", "2:1 2:2", fault(3, 1)},
		{"once in each", "0:1", "0:1", fault(3, 1)},
		{"once in each, otherwise", "0:1 1:1", "2:1 1:2", fault(3, 1)},
		{"Lies: one that there is not", "3:1", "", fault(3, 1)},
		{"Lies: one below all", "-1:1", "", fault(3, 1)},
		{"Lies: one far above", "128:1", "", fault(3, 1)},
		{"Flanks: one that there is not", "", "3:1", fault(3, 1)},
		{"Flanks: one below all", "", "-1:1", fault(3, 1)},
		{"Flanks: one far above", "", "64:1", fault(3, 1)},
		{"Lies: lies 0", "0:0", "", fault(3, 1)},
		{"Lies: lies 3", "1:2 0:3", "", fault(3, 1)},
		{"Lies: lies -1", "0:-1", "", fault(3, 1)},
		{"Flanks: lies 0", "", "0:0", fault(3, 1)},
		{"Flanks: lies 3", "", "2:1 0:3", fault(3, 1)},
		{"Flanks: lies -1", "", "0:-1", fault(3, 1)},
		{"Lies: its section is only in Near", "2:1", "", fault(3, 1)},
		{"Flanks: its section is only in Near", "", "2:1", fault(0, 0)},
	} {
		p := fork(t)
		p.Ways[1].Lies, p.Ways[1].Flanks, p.Ways[1].Near = turnsOf(t, c.lies), turnsOf(t, c.flanks), []int{6}
		wantPlan(t, c.what, p, c.want)
		p.Ways[1].Over = []int{6}
		wantPlan(t, c.what+" (and Over)", p, c.want)
	}
	for _, number := range []int{farBelow, farAbove, 1 << 32} {
		p := fork(t)
		p.Ways[3].Flanks[0].Switch = number
		wantPlan(t, "a switch that is no number of one", p, fault(3, 3))
		p = fork(t)
		p.Ways[4].Lies[0].Lie = number
		wantPlan(t, "a lie that is none", p, fault(3, 4))
	}
}

func TestPlanBars(t *testing.T) {
	for _, rows := range []int{0, 1, 4, 6, 100} {
		p := fork(t)
		p.Bars = append(p.Bars, make([][]bool, 100)...)[:rows]
		wantPlan(t, strconv.Itoa(rows)+" rows", p, fault(4, 0))
	}
	for i := range 5 {
		for _, places := range []int{0, 4, 6, 100} {
			p := fork(t)
			p.Bars[i] = append(p.Bars[i], make([]bool, 100)...)[:places]
			wantPlan(t, strconv.Itoa(places)+" places in row "+strconv.Itoa(i), p, fault(4, i))
			p.Bars[4] = nil
			wantPlan(t, "and none in row 4", p, fault(4, i))
			p.Bars = append(p.Bars, nil)
			wantPlan(t, "and a row too many", p, fault(4, 0))
		}
	}
	wantPlan(t, "a row and no way", impl.Plan{Sections: 1, Hold: 1, Bars: [][]bool{nil}}, fault(4, 0))
	for i := range 5 {
		for k := range 5 {
			if i == k {
				continue
			}
			p := fork(t)
			p.Bars[i][k] = !p.Bars[i][k]
			wantPlan(t, "Bars that differ", p, fault(5, min(i, k)))
			p = fork(t)
			bar(&p, i, k, !p.Bars[i][k])
			want := fault(0, 0)
			if i+k == 1 {
				want = fault(5, 0)
			}
			wantPlan(t, "other Bars", p, want)
		}
	}
}

func TestPlanWaysInCommon(t *testing.T) {
	for i := range 4 {
		for k := i + 1; k < 4; k++ {
			p := planOf(t, 8, "", 1, "", "0 1 | | | |", "2 3 | | | |", "4 5 | | | |", "6 7 | | | |")
			p.Ways[k].Sections[1] = p.Ways[i].Sections[0]
			wantPlan(t, "in common", p, fault(5, i))
			bar(&p, i, k, true)
			wantPlan(t, "in common, and they exclude each other", p, fault(0, 0))
			p = planOf(t, 8, "", 1, "", "0 1 | | | |", "2 3 | | | |", "4 5 | | | |", "6 7 | | | |")
			p.Ways[k].Over, p.Ways[k].Near = p.Ways[i].Sections, p.Ways[i].Sections
			wantPlan(t, "in Sections of the one, in Over and Near of the other", p, fault(0, 0))
		}
	}
	p := great(100)
	bar(&p, 98, 99, false)
	wantPlan(t, "the last two of many", p, fault(5, 98))
	p.Bars[98][99] = true
	wantPlan(t, "Bars of the last two differ", p, fault(5, 98))
	p.Bars[98][98], p.Bars[99][98] = false, true
	wantPlan(t, "a way of many that does not exclude itself", p, fault(0, 0))
}

type planSpoil struct {
	what string
	do   func(*impl.Plan)
	want impl.Fault
}

// planSpoils are faults of which any two may stand together; what each one brings beside its own comes behind its own.
func planSpoils() []planSpoil {
	return []planSpoil{
		{"no sections", func(p *impl.Plan) { p.Sections = 0 }, fault(1, 0)},
		{"Hold 301", func(p *impl.Plan) { p.Hold = 301 }, fault(1, 0)},
		{"many switches", func(p *impl.Plan) { p.Switches = append(p.Switches, make([]int, 38)...) }, fault(1, 0)},
		{"many ways", func(p *impl.Plan) { p.Ways = append(p.Ways, make([]impl.Way, 96)...) }, fault(1, 0)},
		{"switch 0 nowhere", func(p *impl.Plan) { p.Switches[0] = -1 }, fault(2, 0)},
		{"switch 2 nowhere", func(p *impl.Plan) { p.Switches[2] = 8 }, fault(2, 2)},
		{"way 0 has a section that is none", func(p *impl.Plan) { p.Ways[0].Near[1] = 8 }, fault(3, 0)},
		{"way 1 lies nowhere", func(p *impl.Plan) { p.Ways[1].Lies[1].Lie = 0 }, fault(3, 1)},
		{"way 2 has no Sections", func(p *impl.Plan) { p.Ways[2].Sections = nil }, fault(3, 2)},
		{"way 3 has a flank that is none", func(p *impl.Plan) { p.Ways[3].Flanks[0].Switch = 3 }, fault(3, 3)},
		{"way 4 ends in itself", func(p *impl.Plan) { p.Ways[4].Over = []int{6} }, fault(3, 4)},
		{"a row too many", func(p *impl.Plan) { p.Bars = append(p.Bars, nil) }, fault(4, 0)},
		{"row 1 too long", func(p *impl.Plan) { p.Bars[1] = append(p.Bars[1], false) }, fault(4, 1)},
		{"row 4 too short", func(p *impl.Plan) { p.Bars[4] = p.Bars[4][:len(p.Bars[4])-1] }, fault(4, 4)},
		{"0 and 1 do not exclude each other", func(p *impl.Plan) { bar(p, 0, 1, false) }, fault(5, 0)},
		{"1 excludes 3 alone", func(p *impl.Plan) { p.Bars[1][3] = true }, fault(5, 1)},
		{"3 excludes 2 alone", func(p *impl.Plan) { p.Bars[3][2] = true }, fault(5, 2)},
	}
}

func TestPlanOrderOfFaults(t *testing.T) {
	for _, a := range planSpoils() {
		p := fork(t)
		a.do(&p)
		wantPlan(t, a.what, p, a.want)
		for _, b := range planSpoils() {
			if a.what != b.what {
				p := fork(t)
				a.do(&p)
				b.do(&p)
				wantPlan(t, a.what+", "+b.what, p, firstOf(a.want, b.want))
			}
		}
	}
}

func TestFrameEvents(t *testing.T) {
	some := []int{farBelow, -2, -1, 0, 1, 2, 3, 1 << 32, 1<<32 + 1, farAbove}
	for _, p := range []impl.Plan{fork(t), lane(t, 1), great(100), {Sections: 1, Hold: 1}, {Sections: 2, Switches: []int{0, 1, 0}, Hold: 1}} {
		for _, op := range append([]int{4, 5, 6, 7, 8, 9}, some...) {
			for _, of := range append([]int{len(p.Ways) - 1, len(p.Ways), p.Sections - 1, p.Sections, len(p.Switches) - 1, len(p.Switches), 101}, some...) {
				for _, lie := range some {
					below := func(many int) bool { return of >= 0 && of < many }
					want := false
					switch op {
					case 1, 2:
						want = below(len(p.Ways)) && lie == 0
					case 3, 4:
						want = below(p.Sections) && lie == 0
					case 5:
						want = below(len(p.Switches)) && (lie == 0 || lie == 1 || lie == 2)
					case 6:
						want = below(len(p.Switches)) && (lie == 1 || lie == 2)
					case 7:
						want = of == 0 && lie == 0
					}
					e := impl.FrameEvent{Op: op, Of: of, Lie: lie}
					if got := impl.FrameEventOk(p, e); got != want {
						t.Errorf("%d sections, %d switches, %d ways: FrameEventOk of %v is %v", p.Sections, len(p.Switches), len(p.Ways), e, got)
					}
				}
			}
		}
	}
}

func TestFrameEventsOfNoPlan(t *testing.T) {
	for _, s := range planSpoils() {
		p := fork(t)
		s.do(&p)
		for op := range 9 {
			for of := -1; of < 3; of++ {
				for lie := range 3 {
					if e := (impl.FrameEvent{Op: op, Of: of, Lie: lie}); impl.FrameEventOk(p, e) {
						t.Errorf("%s: %v is an event", s.what, e)
					}
				}
			}
		}
	}
	if impl.FrameEventOk(impl.Plan{}, impl.FrameEvent{Op: impl.ETick}) {
		t.Error("an event of the zero plan")
	}
}

func TestBeginFrame(t *testing.T) {
	for _, c := range []struct {
		p    impl.Plan
		want string
	}{
		{fork(t), "........ 11 11 11 / - - - - -"},
		{lane(t, 5), ".... / -"},
		{impl.Plan{Sections: 1, Hold: 1}, ". /"},
		{impl.Plan{Sections: 2, Switches: []int{1, 1}, Hold: 300}, ".. 11 11 /"},
	} {
		got := impl.BeginFrame(c.p)
		if !reflect.DeepEqual(copyFrame(got), copyFrame(frameOf(t, c.p, c.want))) {
			t.Errorf("BeginFrame is %v, not %s", got, c.want)
		}
		if !impl.FrameOk(c.p, got) {
			t.Errorf("%s is no frame", c.want)
		}
		wantApart(t, c.want, got, c.p)
	}
	for _, s := range planSpoils() {
		p := fork(t)
		s.do(&p)
		if got := impl.BeginFrame(p); !reflect.DeepEqual(got, impl.Frame{}) {
			t.Errorf("%s: BeginFrame is %v", s.what, got)
		}
	}
	for i, h := range impl.BeginFrame(great(100)).Ways {
		if len(h.Been) != 30 || heldText(h) != "-" {
			t.Errorf("way %d begins as %v", i, h)
		}
	}
}

func TestFrameNumbers(t *testing.T) {
	got := []int{impl.MaxFrameSections, impl.MaxSwitches, impl.MaxWays, impl.MaxOf, impl.MaxHold, impl.EAsk, impl.EBack, impl.EOcc, impl.EFree, impl.ELies, impl.EMove, impl.ETick, impl.WIdle, impl.WSet, impl.WClear, impl.WTaking, impl.WUsed}
	want := []int{60, 40, 100, 30, 300, 1, 2, 3, 4, 5, 6, 7, 0, 1, 2, 3, 4}
	if !reflect.DeepEqual(got, want) {
		t.Errorf("the numbers that the document names are %v, not %v", got, want)
	}
}

package tests

import (
	"reflect"
	"strconv"
	"strings"
	"testing"

	"loop.example/signalbox/impl"
)

// The state of sections as a text: each one's sign (. free, # occupied, ~ sweeping, ! failed), Count, L when Lost, S when it waits to be swept, + or - for Last; behind a / the counters that are dead.

const toldSigns = ".#~!"

func sectionText(s impl.Section) string {
	out := "?"
	if s.Told >= 0 && s.Told < len(toldSigns) {
		out = toldSigns[s.Told : s.Told+1]
	}
	out += strconv.Itoa(s.Count)
	if s.Lost {
		out += "L"
	}
	if s.Sweep {
		out += "S"
	}
	if s.Last != 0 {
		out += map[int]string{1: "+", -1: "-"}[s.Last]
	}
	return out
}

func countText(s impl.CountState) string {
	var out []string
	if !s.Ok {
		out = append(out, "not")
	}
	for _, x := range s.Sections {
		out = append(out, sectionText(x))
	}
	for k, dead := range s.Dead {
		if dead {
			out = append(out, "/"+strconv.Itoa(k))
		}
	}
	return strings.Join(out, " ")
}

func sectionOf(t *testing.T, text string) impl.Section {
	t.Helper()
	out := impl.Section{Told: strings.IndexByte(toldSigns, text[0])}
	rest := text[1:]
	switch rest[len(rest)-1] {
	case '+':
		out.Last = 1
	case '-':
		out.Last = -1
	}
	rest = strings.TrimRight(rest, "+-")
	rest, out.Sweep = strings.CutSuffix(rest, "S")
	rest, out.Lost = strings.CutSuffix(rest, "L")
	out.Count = number(t, rest)
	return out
}

func countOf(t *testing.T, l impl.Layout, text string) impl.CountState {
	t.Helper()
	out := impl.CountState{Ok: true, Dead: make([]bool, len(l.Counters))}
	for _, word := range strings.Fields(text) {
		if dead, ok := strings.CutPrefix(word, "/"); ok {
			out.Dead[number(t, dead)] = true
		} else {
			out.Sections = append(out.Sections, sectionOf(t, word))
		}
	}
	if countText(out) != text {
		t.Fatalf("the test's own state %q is read as %q", text, countText(out))
	}
	return out
}

func TestCountEvents(t *testing.T) {
	wide, long := street(), layout(9, counter(0, 8), counter(-1, 3))
	dirs := []int{farBelow, -2, -1, 0, 1, 2, 1<<32 + 1, farAbove}
	for _, l := range []impl.Layout{wide, long, layout(1), fence(60, 120), fence(1, 1)} {
		sections, counters := l.Sections, len(l.Counters)
		for _, op := range []int{farBelow, -1, 0, 1, 2, 3, 4, 5, 6, 7, 1<<32 + 1, farAbove} {
			for _, of := range []int{farBelow, -2, -1, 0, 1, sections - 1, sections, counters - 1, counters, counters + 1, 60, 120, 1 << 32, farAbove} {
				for _, dir := range dirs {
					isCounter, isSection := of >= 0 && of < counters, of >= 0 && of < sections
					want := false
					switch op {
					case 1, 2:
						want = isCounter && (dir == 1 || dir == -1)
					case 3, 4:
						want = isCounter && dir == 0
					case 5:
						want = isSection && dir == 0
					}
					e := impl.CountEvent{Op: op, Of: of, Dir: dir}
					if got := impl.CountEventOk(l, e); got != want {
						t.Errorf("%d sections, %d counters: CountEventOk of %v is %v", sections, counters, e, got)
					}
				}
			}
		}
	}
}

func TestCountEventsOfNoLayout(t *testing.T) {
	for i, l := range wrongLayouts() {
		for op := range 7 {
			for of := -1; of < 3; of++ {
				for dir := -1; dir < 2; dir++ {
					if e := (impl.CountEvent{Op: op, Of: of, Dir: dir}); impl.CountEventOk(l, e) {
						t.Errorf("wrong layout %d: %v is one of its events", i, e)
					}
				}
			}
		}
	}
}

func TestBeginCount(t *testing.T) {
	for _, l := range []impl.Layout{street(), layout(1), layout(60), fence(60, 120), fence(1, 3)} {
		got := impl.BeginCount(l)
		want := impl.CountState{Ok: true, Sections: make([]impl.Section, l.Sections), Dead: make([]bool, len(l.Counters))}
		if len(got.Dead) == 0 {
			got.Dead, want.Dead = nil, nil
		}
		if !reflect.DeepEqual(got, want) {
			t.Errorf("%d sections, %d counters: BeginCount is %v", l.Sections, len(l.Counters), got)
		}
		if !impl.CountOk(l, impl.BeginCount(l)) {
			t.Errorf("%d sections, %d counters: BeginCount is no state", l.Sections, len(l.Counters))
		}
	}
	for i, l := range wrongLayouts() {
		if got := impl.BeginCount(l); got.Ok || len(got.Sections) > 0 || len(got.Dead) > 0 {
			t.Errorf("wrong layout %d: BeginCount is %v", i, got)
		}
	}
}

func wantState(t *testing.T, what string, l impl.Layout, s impl.CountState, want bool) {
	t.Helper()
	if got := impl.CountOk(l, s); got != want {
		t.Errorf("%s (%s): CountOk is %v", what, countText(s), got)
	}
}

// mixed is a state of the street in which all kinds of things stand.
const mixed = "!3L+ !-2LS- #1+ ~0S /1"

func TestCountOkSpoiled(t *testing.T) {
	l := street()
	wantState(t, "as it is", l, countOf(t, l, mixed), true)
	for _, c := range []struct {
		what string
		do   func(*impl.CountState)
	}{
		{"not Ok", func(s *impl.CountState) { s.Ok = false }},
		{"the zero value", func(s *impl.CountState) { *s = impl.CountState{} }},
		{"Ok alone", func(s *impl.CountState) { *s = impl.CountState{Ok: true} }},
		{"a section less", func(s *impl.CountState) { s.Sections = s.Sections[:3] }},
		{"a section more", func(s *impl.CountState) { s.Sections = append(s.Sections, impl.Section{}) }},
		{"no sections", func(s *impl.CountState) { s.Sections = nil }},
		{"a counter less", func(s *impl.CountState) { s.Dead = s.Dead[:5] }},
		{"a counter more", func(s *impl.CountState) { s.Dead = append(s.Dead, false) }},
		{"a dead one more", func(s *impl.CountState) { s.Dead = append(s.Dead, true) }},
		{"no counters", func(s *impl.CountState) { s.Dead = nil }},
		{"another one dead", func(s *impl.CountState) { s.Dead[5] = true }},
		{"none dead", func(s *impl.CountState) { s.Dead[1] = false }},
		{"Count one too many", func(s *impl.CountState) { s.Sections[0].Count = 1000001 }},
		{"Count far too many", func(s *impl.CountState) { s.Sections[0].Count = farAbove }},
		{"Count one too few", func(s *impl.CountState) { s.Sections[1].Count = -1000001 }},
		{"Count far too few", func(s *impl.CountState) { s.Sections[1].Count = farBelow }},
		{"Last 2", func(s *impl.CountState) { s.Sections[2].Last = 2 }},
		{"Last -2", func(s *impl.CountState) { s.Sections[2].Last = -2 }},
		{"Last far above", func(s *impl.CountState) { s.Sections[0].Last = farAbove }},
		{"Last far below", func(s *impl.CountState) { s.Sections[3].Last = farBelow }},
		{"not Lost beside a dead counter, From", func(s *impl.CountState) { s.Sections[0].Lost = false }},
		{"swept by one that was counted out", func(s *impl.CountState) { s.Sections[3].Last = -1 }},
		{"a Count where nothing is swept", func(s *impl.CountState) { s.Sections[3].Count, s.Sections[3].Sweep = 1, false }},
	} {
		s := countOf(t, l, mixed)
		c.do(&s)
		wantState(t, c.what, l, s, false)
	}
	for i, wrong := range wrongLayouts() {
		wantState(t, "wrong layout "+strconv.Itoa(i), wrong, countOf(t, l, mixed), false)
		right := impl.CountState{Ok: true, Dead: make([]bool, len(wrong.Counters))}
		if wrong.Sections > 0 && wrong.Sections < 100 {
			right.Sections = make([]impl.Section, wrong.Sections)
		}
		wantState(t, "as long as wrong layout "+strconv.Itoa(i), wrong, right, false)
		wantState(t, "the zero value of wrong layout "+strconv.Itoa(i), wrong, impl.CountState{}, false)
	}
}

func TestCountOkTold(t *testing.T) {
	l := street()
	for section := range 4 {
		for told := -1; told < 5; told++ {
			s := countOf(t, l, mixed)
			want := s.Sections[section].Told == told
			s.Sections[section].Told = told
			wantState(t, "section "+strconv.Itoa(section)+" told "+strconv.Itoa(told), l, s, want)
		}
		for _, told := range []int{farBelow, 1 << 32, 1<<32 + 1, farAbove} {
			s := countOf(t, l, mixed)
			s.Sections[section].Told = told
			wantState(t, "told "+strconv.Itoa(told), l, s, false)
		}
	}
}

// Each of these stands in each section of a layout that has one counter around each.
func TestCountOkSections(t *testing.T) {
	l := layout(3, counter(-1, 0), counter(1, -1), counter(-1, 2))
	for _, c := range []struct {
		text string
		dead bool
		want bool
	}{
		{".0", false, true}, {".0+", false, true}, {".0-", false, true},
		{"#1", false, true}, {"#1+", false, true}, {"#1-", false, true},
		{"#1000000+", false, true}, {"#1000001+", false, false},
		{"#0L", false, true}, {"#0L+", false, true}, {"#0L-", false, true}, {"#3L-", false, true},
		{"#-1L-", false, true}, {"#-1L+", false, true}, {"#-1L", false, true},
		{"#-1-", false, false}, {".-1-", false, false}, {"#-1+", false, false}, {"#-1", false, false}, {"~-1S", false, false}, {"#-1S", false, false},
		{"#-1000000L-", false, true}, {"#-1000001L-", false, false}, {"#-1000000-", false, false},
		{"~0S", false, true}, {"~0S+", false, true}, {"~0S-", false, false}, {".0S-", false, false},
		{"~1S", false, true}, {"~1S+", false, true}, {"~1S-", false, true}, {"~1000000S+", false, true}, {"~1000001S+", false, false},
		{"#0LS", false, true}, {"#0LS+", false, true}, {"#0LS-", false, true}, {"~0LS-", false, false},
		{"#1LS-", false, true}, {"#-1LS-", false, true}, {"~-1LS-", false, false},
		{"#1S", false, false}, {".1S", false, false}, {".1", false, false}, {".0L", false, false}, {"#0", false, false}, {"~0", false, false}, {"!0", false, false}, {"!0L", false, false},
		{"!0L", true, true}, {"!0L-", true, true}, {"!5L+", true, true}, {"!-5L+", true, true}, {"!0LS-", true, true}, {"!1LS+", true, true},
		{"!0", true, false}, {"!1+", true, false}, {"!-1-", true, false}, {"!0S", true, false}, {"!1S", true, false}, {"!0S-", true, false},
		{"#0L", true, false}, {".0L", true, false}, {"~0LS", true, false}, {"#1L+", true, false}, {".0", true, false}, {"#1+", true, false},
		{"!1000000L+", true, true}, {"!1000001L+", true, false}, {"!-1000000L+", true, true}, {"!-1000001L+", true, false},
	} {
		for section := range 3 {
			s := impl.BeginCount(l)
			s.Sections[section] = sectionOf(t, c.text)
			s.Dead[section] = c.dead
			wantState(t, "section "+strconv.Itoa(section), l, s, c.want)
		}
	}
}

func TestCountOkDeadAround(t *testing.T) {
	l := street()
	for k, c := range l.Counters {
		s := impl.BeginCount(l)
		s.Dead[k] = true
		sides := 0
		for section := range s.Sections {
			if section == c.From || section == c.To {
				s.Sections[section] = impl.Section{Told: impl.Failed, Lost: true}
				sides++
			}
		}
		wantState(t, "counter "+strconv.Itoa(k)+" dead", l, s, true)
		for section := range s.Sections {
			spoiled := s
			spoiled.Sections = append([]impl.Section{}, s.Sections...)
			if section == c.From || section == c.To {
				spoiled.Sections[section].Lost = false
			} else {
				spoiled.Sections[section] = impl.Section{Told: impl.Failed, Lost: true}
			}
			wantState(t, "counter "+strconv.Itoa(k)+" dead, section "+strconv.Itoa(section)+" otherwise", l, spoiled, false)
		}
		if sides == 0 {
			t.Fatalf("counter %d is around nothing", k)
		}
	}
	wantState(t, "two dead", l, countOf(t, l, "!0L !0L .0 .0 /1 /4"), true)
	wantState(t, "all dead", l, countOf(t, l, "!0L !0L !0L .0 /0 /1 /2 /3 /4 /5"), true)
	wantState(t, "the last of 120 dead", fence(1, 120), countOf(t, fence(1, 120), "!0L /119"), true)
	wantState(t, "the last of 120 dead, nothing lost", fence(1, 120), countOf(t, fence(1, 120), ".0 /119"), false)
}

package tests

import (
	"reflect"
	"runtime"
	"slices"
	"strconv"
	"sync"
	"testing"
	"time"

	"loop.example/signalbox/impl"
)

// What is owed by every call, whatever it is given.

// anyBox is one of a run, an odd one, or one with some of it thrown about.
func (d *dice) anyBox(s impl.Site, p impl.Plan, l impl.Layout, b impl.Box) impl.Box {
	switch d.below(3) {
	case 0:
		return copyBox(b)
	case 1:
		if b.Ok && len(p.Ways) > 0 {
			return d.oddBox(s, p, l, b)
		}
	}
	b = copyBox(b)
	for range 1 + d.below(2) {
		switch d.below(14) {
		case 0:
			b.Ok = d.below(2) == 0
		case 1:
			b.Lies = append(b.Lies, d.number())
		case 2:
			scatter(d, b.Lies)
		case 3:
			b.Stuck = b.Stuck[:d.below(len(b.Stuck)+1)]
		case 4:
			b.Works = b.Works[:d.below(len(b.Works)+1)]
		case 5:
			if len(b.Works) > 0 {
				b.Works[d.below(len(b.Works))] = make([]bool, d.below(6))
			}
		case 6:
			b.Trains = b.Trains[:d.below(len(b.Trains)+1)]
		case 7:
			if len(b.Trains) > 0 {
				b.Trains[d.below(len(b.Trains))] = d.wildTrain()
			}
		case 8:
			if len(b.Trains) > 0 {
				b.Trains[d.below(len(b.Trains))].Long = d.number()
			}
		case 9:
			b.Free = b.Free[:d.below(len(b.Free)+1)]
		case 10:
			scatter(d, b.Speeds)
		case 11:
			if len(b.Count.Sections) > 0 {
				b.Count.Sections[d.below(len(b.Count.Sections))] = impl.Section{Told: d.number(), Count: d.number(), Last: d.number()}
			}
		case 12:
			if len(b.Frame.Ways) > 0 {
				b.Frame.Ways[d.below(len(b.Frame.Ways))] = impl.Held{State: d.number(), Gone: d.number(), Timer: d.number(), Been: make([]bool, d.below(4))}
			}
		case 13:
			if len(b.Frame.Points) > 0 {
				b.Frame.Points[d.below(len(b.Frame.Points))] = impl.Point{Want: d.number(), Lies: d.number()}
			}
		}
	}
	return b
}

// scatter writes a number into one place of a list.
func scatter(d *dice, list []int) {
	if len(list) > 0 {
		list[d.below(len(list))] = d.number()
	}
}

func (d *dice) anyList(s impl.Site, ways []impl.Route, l impl.Layout) []impl.Happen {
	var out []impl.Happen
	for range d.below(6) {
		x := d.trouble(s, ways, l)
		if d.below(6) == 0 {
			x = impl.Happen{Op: d.number(), Of: d.number(), N: d.number()}
		}
		out = append(out, x)
	}
	return out
}

// answersOf is all that the calls of the chapter answer.
func answersOf(s impl.Site, b impl.Box, script [][]impl.Happen) (impl.Box, impl.Row, impl.Shot, []impl.Shot, string) {
	return impl.Start(s), impl.RowOf(s, b), impl.Tick(s, b, script[0]), impl.Drive(s, script), impl.Shown(s, b)
}

func answersText(s impl.Site, b impl.Box, script [][]impl.Happen) string {
	start, row, shot, shots, shown := answersOf(s, b, script)
	out := boxText(s.Net, start) + "\n" + wholeRowText(row) + "\n" + shotText(s.Net, shot) + "\n" + shown
	for _, x := range shots {
		out += "\n" + shotText(s.Net, x)
	}
	return out
}

// Whatever stands in the arguments: what is said is answered, twice the same, in memory of its own, and nothing is written into them.
func TestBoxAnyArgument(t *testing.T) {
	d := &dice{state: 501}
	seen := map[string]int{}
	for i := range 1500 {
		s := d.drawnSite()
		if i%4 == 0 {
			s = d.anySite()
		}
		s = copySite(s)
		w := slowWorldOf(s)
		ways, plan, lay := impl.Ways(s), impl.PlanOf(s), impl.LayoutOf(s)
		script := copyScript([][]impl.Happen{d.anyList(s, ways, lay), d.anyList(s, ways, lay), nil, d.anyList(s, ways, lay)})
		b := impl.Start(s)
		if w != nil {
			b = impl.Tick(s, b, script[3]).Box
		}
		b = copyBox(d.anyBox(s, plan, lay, b))
		what := "case " + strconv.Itoa(i)
		beforeSite, beforeBox, beforeScript := wholeSite(copySite(s)), wholeBox(copyBox(b)), wholeScript(copyScript(script))
		text := answersText(s, b, script)
		start, row, shot, shots, _ := answersOf(s, b, script)
		wantSlowBox(t, w, s, b)
		wantSlowTick(t, w, s, b, script[0])
		wantApart(t, what+", Start", start, s)
		wantApart(t, what+", RowOf", row, s, b)
		wantApart(t, what+", Tick", shot, s, b, script)
		wantApart(t, what+", Drive", shots, s, script)
		wantApart(t, what+", all of it", []any{start, row, shot, shots}, s, b, script)
		spoilShots(append(shots, shot, impl.Shot{Box: start}))
		if answersText(s, b, script) != text {
			t.Fatalf("%s: another answer at the same argument", what)
		}
		if !reflect.DeepEqual(wholeSite(s), beforeSite) || !reflect.DeepEqual(wholeBox(b), beforeBox) || !reflect.DeepEqual(wholeScript(script), beforeScript) {
			t.Fatalf("%s: it was written into an argument", what)
		}
		seen["site "+strconv.FormatBool(w != nil)]++
		seen["box "+strconv.FormatBool(shot.Ok)]++
	}
	wantSeen(t, seen, 100, "site true", "site false", "box true", "box false")
}

// spoilShots writes into all that was answered.
func spoilShots(shots []impl.Shot) {
	for _, x := range shots {
		spoil(x.Codes, 99)
		spoil(x.Shows, 99)
		spoil(x.Box.Lies, 99)
		spoil(x.Box.Stuck, true)
		spoil(x.Box.Trains, impl.Train{Long: 99})
		spoil(x.Box.Speeds, 99)
		spoil(x.Box.Count.Sections, impl.Section{Told: 99})
		spoil(x.Box.Frame.Points, impl.Point{Want: 99})
		for _, lamps := range x.Box.Works {
			spoil(lamps, false)
		}
		for _, h := range x.Box.Frame.Ways {
			spoil(h.Been, true)
		}
	}
}

// Numbers that are none at all, in every place.
func TestBoxWildNumbers(t *testing.T) {
	d := &dice{state: 502}
	for range 20000 {
		s := impl.Site{Net: d.net(), Hold: d.number()}
		if d.below(2) == 0 {
			s = crossover(t)
		}
		b := impl.Box{Ok: d.below(4) > 0, Lies: d.wildNumbers(), Stuck: d.wildFlags(), Free: d.wildFlags(), Speeds: d.wildNumbers()}
		for range d.below(3) {
			b.Trains = append(b.Trains, d.wildTrain())
			b.Works = append(b.Works, d.wildFlags())
			b.Frame.Ways = append(b.Frame.Ways, impl.Held{State: d.number(), Gone: d.number(), Been: d.wildFlags(), Timer: d.number()})
			b.Frame.Points = append(b.Frame.Points, impl.Point{Want: d.number(), Lies: d.number()})
			b.Count.Sections = append(b.Count.Sections, impl.Section{Told: d.number(), Count: d.number(), Last: d.number()})
		}
		if d.below(2) == 0 {
			b.Frame.Ok, b.Count.Ok, b.Frame.Occ, b.Count.Dead = true, true, d.wildFlags(), d.wildFlags()
		}
		list := []impl.Happen{{Op: d.number(), Of: d.number(), N: d.number()}}
		if impl.Tick(s, b, list).Ok || impl.Shown(s, b) != "" || len(impl.RowOf(s, b).Next) > 0 {
			t.Fatalf("%v: %v is a box", s, b)
		}
		if shots := impl.Drive(s, [][]impl.Happen{list, list}); impl.Start(s).Ok != (len(shots) == 2) {
			t.Fatalf("%v: %d shots", s, len(shots))
		}
	}
}

// A box of a site with each happening that has numbers at the ends of int.
func TestBoxWildHappenings(t *testing.T) {
	s, b := busy(t)
	w := slowWorldOf(s)
	d := &dice{state: 503}
	for range 1500 {
		var list []impl.Happen
		for range 1 + d.below(5) {
			x := impl.Happen{Op: 1 + d.below(13), Of: d.number(), N: d.number()}
			if d.below(4) == 0 {
				x.Of = d.below(13)
			}
			list = append(list, x)
		}
		wantSlowTick(t, w, s, b, list)
	}
}

// Many calls side by side, on the same arguments and on others, answer what they answer alone.
func TestBoxSideBySide(t *testing.T) {
	d := &dice{state: 504}
	type call struct {
		site   impl.Site
		box    impl.Box
		script [][]impl.Happen
		want   string
	}
	var calls []call
	for range 6 {
		s := d.drawnSite()
		ways, plan, lay := impl.Ways(s), impl.PlanOf(s), impl.LayoutOf(s)
		c := call{site: s, box: impl.Start(s)}
		for range 12 {
			list := append(d.leads(s, ways, c.box), d.anyList(s, ways, lay)...)
			c.script = append(c.script, list)
			c.box = impl.Tick(s, c.box, list).Box
		}
		if len(ways) > 0 {
			c.box = d.oddBox(s, plan, lay, c.box)
		}
		c.want = answersText(s, c.box, c.script)
		calls = append(calls, c)
	}
	wrong := make([]int, 48)
	var all sync.WaitGroup
	for k := range wrong {
		all.Add(1)
		go func() {
			defer all.Done()
			for round := range 6 {
				if c := calls[(k+round)%len(calls)]; answersText(c.site, c.box, c.script) != c.want {
					wrong[k]++
				}
			}
		}()
	}
	all.Wait()
	if slices.Max(wrong) > 0 {
		t.Errorf("side by side there are other answers: %v", wrong)
	}
}

// goroutines is how many there are when those that are ending have ended.
func goroutines(most int) int {
	for range 200 {
		if runtime.NumGoroutine() <= most {
			break
		}
		time.Sleep(time.Millisecond)
	}
	return runtime.NumGoroutine()
}

func TestBoxLeavesNoGoroutine(t *testing.T) {
	s, b := busy(t)
	before := goroutines(0)
	for _, c := range []struct {
		what string
		do   func()
	}{
		{"Start", func() { impl.Start(s) }},
		{"Start, a site that is not right", func() { impl.Start(impl.Site{}) }},
		{"RowOf", func() { impl.RowOf(s, b) }},
		{"Tick", func() { impl.Tick(s, b, listOf(t, "ask 0, turn 0, speed 1 200, reset 3")) }},
		{"Tick, more than 100 things", func() { impl.Tick(s, b, make([]impl.Happen, 101)) }},
		{"Tick, no box", func() { impl.Tick(s, impl.Box{}, nil) }},
		{"Drive", func() { impl.Drive(s, make([][]impl.Happen, 20)) }},
		{"Drive, a list that is not Ok", func() { impl.Drive(s, [][]impl.Happen{nil, make([]impl.Happen, 101), nil}) }},
		{"Drive, too many ticks", func() { impl.Drive(s, make([][]impl.Happen, 401)) }},
		{"Shown", func() { impl.Shown(s, b) }},
	} {
		for range 50 {
			c.do()
		}
		if after := goroutines(before); after > before {
			t.Errorf("%s: %d goroutines more", c.what, after-before)
		}
	}
}

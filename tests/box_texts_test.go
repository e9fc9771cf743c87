package tests

import (
	"slices"
	"strconv"
	"strings"
	"testing"

	"loop.example/signalbox/impl"
)

// What happens, boxes and shots written as texts, and what copies them.

func happenWords() []string {
	return []string{"", "ask", "back", "hand", "stick", "free", "lamp", "bulbs", "ghost", "dead", "alive", "reset", "speed", "turn"}
}

// happenOf takes "hand 1 2", "turn 0" and the like.
func happenOf(t *testing.T, text string) impl.Happen {
	t.Helper()
	words := strings.Fields(text)
	x := impl.Happen{Op: slices.Index(happenWords(), words[0])}
	if x.Op < 0 {
		t.Fatalf("nothing happens by %s", text)
	}
	if len(words) > 1 {
		x.Of = number(t, words[1])
	}
	if len(words) > 2 {
		x.N = number(t, words[2])
	}
	return x
}

// listOf takes what happens in a tick, with commas between.
func listOf(t *testing.T, text string) []impl.Happen {
	t.Helper()
	var out []impl.Happen
	for _, word := range strings.Split(text, ",") {
		if strings.TrimSpace(word) != "" {
			out = append(out, happenOf(t, word))
		}
	}
	return out
}

// lampsText is the lamps that do not work.
func lampsText(works [][]bool) string {
	var out []string
	for _, lamps := range works {
		out = append(out, flagsText(lamps, "x", "."))
	}
	return strings.Join(out, " ")
}

// boxText tells every field.
func boxText(n impl.Net, b impl.Box) string {
	out := []string{
		"ok " + strconv.FormatBool(b.Ok),
		"count " + countText(b.Count),
		"frame " + frameText(b.Frame),
		"lies " + numbersText(b.Lies),
		"stuck " + flagsText(b.Stuck, ".", "x"),
		"lamps " + lampsText(b.Works),
	}
	for _, x := range b.Trains {
		out = append(out, "train "+trainText(n, x))
	}
	return strings.Join(append(out, "free "+flagsText(b.Free, ".", "x"), "speeds "+numbersText(b.Speeds)), "\n")
}

func struckText(struck [][]int) string {
	var out []string
	for _, two := range struck {
		out = append(out, numbersText(two))
	}
	return strings.Join(out, ", ")
}

// shotText tells every field.
func shotText(n impl.Net, x impl.Shot) string {
	return strings.Join([]string{
		"ok " + strconv.FormatBool(x.Ok),
		"codes " + numbersText(x.Codes),
		"shows " + numbersText(x.Shows),
		"fars " + numbersText(x.Fars),
		"struck " + struckText(x.Struck),
		"bad " + numbersText(x.Bad),
		boxText(n, x.Box),
	}, "\n")
}

// wholeRowText tells every field of a row.
func wholeRowText(r impl.Row) string {
	return "next " + numbersText(r.Next) + "; far " + numbersText(r.Far) + "; open " + flagsText(r.Open, ".", "x") + "; lamps " + lampsText(r.Works)
}

func copyBox(b impl.Box) impl.Box {
	b.Count = roomyState(b.Count)
	b.Frame = copyFrame(b.Frame)
	b.Lies = roomy(b.Lies, 7)
	b.Stuck = roomy(b.Stuck, true)
	b.Works = roomy(b.Works, nil)
	for i := range b.Works {
		b.Works[i] = roomy(b.Works[i], true)
	}
	b.Trains = roomy(b.Trains, impl.Train{Long: 7})
	for i := range b.Trains {
		b.Trains[i] = copyTrain(b.Trains[i])
	}
	b.Free = roomy(b.Free, true)
	b.Speeds = roomy(b.Speeds, 7)
	return b
}

// wholeBox is the box with what lies behind the ends of its lists.
func wholeBox(b impl.Box) impl.Box {
	b.Count = wholeState(b.Count)
	b.Frame = wholeFrame(b.Frame)
	b.Lies, b.Stuck, b.Free, b.Speeds = b.Lies[:cap(b.Lies)], b.Stuck[:cap(b.Stuck)], b.Free[:cap(b.Free)], b.Speeds[:cap(b.Speeds)]
	b.Works = slices.Clone(b.Works[:cap(b.Works)])
	for i := range b.Works {
		b.Works[i] = b.Works[i][:cap(b.Works[i])]
	}
	b.Trains = slices.Clone(b.Trains[:cap(b.Trains)])
	for i := range b.Trains {
		b.Trains[i] = wholeTrain(b.Trains[i])
	}
	return b
}

func copyScript(script [][]impl.Happen) [][]impl.Happen {
	out := roomy(script, nil)
	for i := range out {
		out[i] = roomy(out[i], impl.Happen{Op: 7, Of: 7, N: 7})
	}
	return out
}

func wholeScript(script [][]impl.Happen) [][]impl.Happen {
	out := slices.Clone(script[:cap(script)])
	for i := range out {
		out[i] = out[i][:cap(out[i])]
	}
	return out
}

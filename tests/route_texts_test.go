package tests

import (
	"strconv"
	"strings"
	"testing"

	"loop.example/signalbox/impl"
)

// Nets, signals and routes written as texts, so that a test of routes can be read.

func number(t *testing.T, text string) int {
	t.Helper()
	x, err := strconv.Atoi(text)
	if err != nil {
		t.Fatal(err)
	}
	return x
}

// netOf takes pieces ("a10 b20": a letter and a length) and joints, one a line: "end a0", "plain a1 b0", "switch tip left right", "cross from to from to". Switches and crossings are named by their place.
func netOf(t *testing.T, pieces, joints string) impl.Net {
	t.Helper()
	n := impl.Net{}
	for _, p := range strings.Fields(pieces) {
		n.Pieces = append(n.Pieces, piece(p[:1], number(t, p[1:])))
	}
	kinds := map[string]int{"end": impl.JEnd, "plain": impl.JPlain, "switch": impl.JSwitch, "cross": impl.JCross}
	for _, line := range strings.Split(strings.TrimSpace(joints), "\n") {
		words := strings.Fields(line)
		j := impl.Joint{Kind: kinds[words[0]]}
		if j.Kind == impl.JSwitch || j.Kind == impl.JCross {
			j.Name = "j" + strconv.Itoa(len(n.Joints))
		}
		for _, e := range words[1:] {
			j.Ends = append(j.Ends, end(pieceNamed(t, n, e[:1]), number(t, e[1:])))
		}
		n.Joints = append(n.Joints, j)
	}
	if got := impl.NetOk(n); got != (impl.Fault{}) {
		t.Fatalf("the test's own net is not right: %v", got)
	}
	return n
}

func pieceNamed(t *testing.T, n impl.Net, name string) int {
	t.Helper()
	for p := range n.Pieces {
		if n.Pieces[p].Name == name {
			return p
		}
	}
	t.Fatalf("no piece %s", name)
	return -1
}

// signalsOf takes "a5+ b7-": a piece, a place, and to which end the signal looks.
func signalsOf(t *testing.T, n impl.Net, text string) []impl.Signal {
	t.Helper()
	var out []impl.Signal
	for i, s := range strings.Fields(text) {
		way := map[byte]int{'+': 1, '-': -1}[s[len(s)-1]]
		out = append(out, impl.Signal{Name: "s" + strconv.Itoa(i), Piece: pieceNamed(t, n, s[:1]), At: number(t, s[1:len(s)-1]), Way: way})
	}
	if got := impl.SignalsOk(n, out); got != (impl.Fault{}) {
		t.Fatalf("the test's own signals are not right: %v", got)
	}
	return out
}

func nameOf(n impl.Net, p int) string {
	if p < 0 || p >= len(n.Pieces) {
		return "piece" + strconv.Itoa(p)
	}
	return n.Pieces[p].Name
}

func partsText(n impl.Net, parts []impl.Part) string {
	var out []string
	for _, p := range parts {
		out = append(out, nameOf(n, p.Piece)+strconv.Itoa(p.From)+"-"+strconv.Itoa(p.To))
	}
	return strings.Join(out, " ")
}

func stepsText(n impl.Net, steps []impl.Step) string {
	var out []string
	for _, s := range steps {
		way, ok := map[int]string{1: "+", -1: "-"}[s.Way]
		if !ok {
			way = "?" + strconv.Itoa(s.Way)
		}
		out = append(out, nameOf(n, s.Piece)+way)
	}
	return strings.Join(out, " ")
}

func liesText(lies []impl.Lie) string {
	var out []string
	for _, l := range lies {
		out = append(out, strconv.Itoa(l.Joint)+"="+strconv.Itoa(l.Lie))
	}
	return strings.Join(out, " ")
}

func flanksText(flanks []impl.Flank) string {
	var out []string
	for _, f := range flanks {
		kind, ok := map[int]string{impl.FBuffer: "buffer", impl.FSignal: "signal", impl.FSwitch: "switch", impl.FOpen: "open"}[f.Kind]
		if !ok {
			kind = "?" + strconv.Itoa(f.Kind)
		}
		text := strconv.Itoa(f.At) + ":" + kind + strconv.Itoa(f.Of)
		if f.Lie != 0 {
			text += "=" + strconv.Itoa(f.Lie)
		}
		out = append(out, text)
	}
	return strings.Join(out, " ")
}

// routeText tells every field: "0>1 a+ b+ | a5-9 b0-3", then, where there are some, Lies ("lies 1=2": joint 1 lies right), Crosses, Over and Flanks ("1:switch2=1": at joint 1 a switch, joint 2, that lies left).
func routeText(n impl.Net, r impl.Route) string {
	out := strconv.Itoa(r.From) + ">" + strconv.Itoa(r.To) + " " + stepsText(n, r.Steps) + " | " + partsText(n, r.Parts)
	if len(r.Lies) > 0 {
		out += " | lies " + liesText(r.Lies)
	}
	if len(r.Crosses) > 0 {
		out += " | crosses"
		for _, c := range r.Crosses {
			out += " " + strconv.Itoa(c)
		}
	}
	if len(r.Over) > 0 {
		out += " | over " + partsText(n, r.Over)
	}
	if len(r.Flanks) > 0 {
		out += " | flanks " + flanksText(r.Flanks)
	}
	return out
}

func routesText(n impl.Net, routes []impl.Route) string {
	var out []string
	for _, r := range routes {
		out = append(out, routeText(n, r))
	}
	return strings.Join(out, "\n")
}

// wantRoutes takes the routes one a line.
func wantRoutes(t *testing.T, what string, n impl.Net, signals []impl.Signal, over int, want string) {
	t.Helper()
	var lines []string
	for _, line := range strings.Split(want, "\n") {
		if line = strings.TrimSpace(line); line != "" {
			lines = append(lines, line)
		}
	}
	if got := routesText(n, impl.Routes(n, signals, over)); got != strings.Join(lines, "\n") {
		t.Errorf("%s: Routes is\n%s\nnot\n%s", what, got, strings.Join(lines, "\n"))
	}
}

package tests

import (
	"reflect"
	"strconv"
	"testing"

	"loop.example/signalbox/impl"
)

// builder joins a net piece by piece.
type builder struct{ net impl.Net }

func (b *builder) piece() int {
	b.net.Pieces = append(b.net.Pieces, piece("p"+strconv.Itoa(len(b.net.Pieces)), 100))
	return len(b.net.Pieces) - 1
}

func (b *builder) join(kind int, ends ...impl.End) {
	j := impl.Joint{Kind: kind, Ends: ends}
	if kind > impl.JPlain {
		j.Name = "j" + strconv.Itoa(len(b.net.Joints))
	}
	b.net.Joints = append(b.net.Joints, j)
}

// spread leads from an end over switches to so many pieces (2 or more) that end at buffers, and tells those.
func (b *builder) spread(from impl.End, count int) []int {
	left, right := b.piece(), b.piece()
	b.join(impl.JSwitch, from, end(left, 0), end(right, 0))
	b.join(impl.JEnd, end(left, 1))
	if count == 2 {
		b.join(impl.JEnd, end(right, 1))
		return []int{left, right}
	}
	return append(b.spread(end(right, 1), count-1), left)
}

// diamonds leads from a piece over so many pairs of pieces that part and join again, and tells the last piece.
func (b *builder) diamonds(first, count int) int {
	for range count {
		left, right, next := b.piece(), b.piece(), b.piece()
		b.join(impl.JSwitch, end(first, 1), end(left, 0), end(right, 0))
		b.join(impl.JSwitch, end(next, 0), end(left, 1), end(right, 1))
		first = next
	}
	return first
}

// chain leads from a piece over so many others to a buffer.
func (b *builder) chain(first, count int) {
	for range count {
		next := b.piece()
		b.join(impl.JPlain, end(first, 1), end(next, 0))
		first = next
	}
	b.join(impl.JEnd, end(first, 1))
}

// balloon leads from a piece round into the switch over which one came, so that no route ends.
func (b *builder) balloon(first int) {
	round := b.piece()
	b.join(impl.JSwitch, end(first, 1), end(round, 0), end(round, 1))
}

func (b *builder) begin() int {
	first := b.piece()
	b.join(impl.JEnd, end(first, 0))
	return first
}

func post(i, piece, at, way int) impl.Signal {
	return impl.Signal{Name: "s" + strconv.Itoa(i), Piece: piece, At: at, Way: way}
}

func wantCount(t *testing.T, what string, n impl.Net, signals []impl.Signal, over, want int) []impl.Route {
	t.Helper()
	if got := impl.SignalsOk(n, signals); got != (impl.Fault{}) {
		t.Fatalf("%s: the test's own signals are not right: %v", what, got)
	}
	got := impl.Routes(n, signals, over)
	if len(got) != want {
		t.Fatalf("%s: there are %d routes, not %d", what, len(got), want)
	}
	return got
}

func TestRoutesHowMany(t *testing.T) {
	b := &builder{}
	throat := b.piece()
	var signals []impl.Signal
	for i, p := range b.spread(end(throat, 0), 10) {
		signals = append(signals, post(i, p, 50, -1))
	}
	b.spread(end(throat, 1), 30)
	got := wantCount(t, "10 to 30", b.net, signals, 0, 300)
	for i, r := range got {
		if r.From != i/30 || r.To != -1 {
			t.Errorf("route %d is from %d to %d", i, r.From, r.To)
		}
	}
	wantCount(t, "270", b.net, signals[:9], 0, 270)
	more := append(append([]impl.Signal{}, signals...), post(10, signals[0].Piece, 60, 1))
	wantCount(t, "one more, the last", b.net, more, 0, 0)
	more[0], more[10] = more[10], more[0]
	wantCount(t, "one more, the first", b.net, more, 0, 0)
	more[1] = more[10]
	wantCount(t, "one more and 30 less", b.net, more[:10], 0, 271)
}

// eight is 8 diamonds and a long chain: 256 ways over 1021 pieces, and each over 74 others.
func eight() impl.Net {
	b := &builder{}
	b.chain(b.diamonds(b.begin(), 8), 74)
	return b.net
}

func TestRoutesPiecesComeTo(t *testing.T) {
	n := eight()
	signals := []impl.Signal{post(0, 0, 50, 1)}
	got := wantCount(t, "19965", n, signals, 0, 256)
	if len(got[0].Steps) != 1+16+74 || got[0].To != -1 || len(got[0].Lies) != 16 {
		t.Errorf("the first route: %v", got[0])
	}
	for i := 1; i <= 35; i++ {
		signals = append(signals, post(i, 0, i, -1))
	}
	wantCount(t, "20000", n, signals, 0, 256+35)
	wantCount(t, "20001", n, append(signals, post(36, 0, 36, -1)), 0, 0)
	signals[0] = post(0, 0, 60, -1)
	wantCount(t, "without the first", n, append(signals, post(36, 0, 36, -1)), 0, 37)
}

func TestRoutesThatAreNoneCount(t *testing.T) {
	for _, c := range []struct{ diamonds, want int }{{0, 1}, {1, 1}, {11, 1}, {12, 0}, {31, 0}} {
		b := &builder{}
		b.balloon(b.diamonds(b.begin(), c.diamonds))
		what := "diamonds " + strconv.Itoa(c.diamonds)
		wantCount(t, what, b.net, []impl.Signal{post(0, 0, 50, -1), post(1, 0, 50, 1)}, 0, c.want)
		wantCount(t, what+", the other first", b.net, []impl.Signal{post(0, 0, 50, 1), post(1, 0, 50, -1)}, 0, c.want)
	}
	b := &builder{}
	first := b.begin()
	b.balloon(b.diamonds(first, 11))
	second := b.begin()
	b.balloon(b.diamonds(second, 11))
	wantCount(t, "of the one signal", b.net, []impl.Signal{post(0, first, 50, 1), post(1, first, 50, -1)}, 0, 1)
	wantCount(t, "of the other one", b.net, []impl.Signal{post(0, second, 50, 1), post(1, first, 50, -1)}, 0, 1)
	wantCount(t, "of all signals", b.net, []impl.Signal{post(0, first, 50, 1), post(1, second, 50, 1), post(2, first, 50, -1)}, 0, 0)
}

func TestRoutesOverRange(t *testing.T) {
	n := line(3)
	signals := []impl.Signal{post(0, 0, 50, 1), post(1, 2, 50, 1)}
	for _, over := range []int{0, 1, 99999, 100000} {
		wantCount(t, "over "+strconv.Itoa(over), n, signals, over, 2)
	}
	for _, over := range []int{-1, 100001, 100002, -100000, 1 << 32, farBelow, farAbove} {
		wantCount(t, "over "+strconv.Itoa(over), n, signals, over, 0)
	}
	n = ring()
	n.Pieces[0].Len = 2
	got := wantCount(t, "the shortest ring", n, []impl.Signal{post(0, 0, 1, 1), post(1, 0, 1, -1)}, 100000, 2)
	for _, r := range got {
		if len(r.Over) != 50001 {
			t.Fatalf("there are %d parts", len(r.Over))
		}
		far := 0
		for _, p := range r.Over {
			far += p.To - p.From
		}
		if far != 100000 || r.Over[1] != (impl.Part{From: 0, To: 2}) || r.Over[50000].To-r.Over[50000].From != 1 {
			t.Errorf("they are %d long, the last one is %v", far, r.Over[50000])
		}
	}
}

func TestRoutesAtTheLimits(t *testing.T) {
	n := line(impl.MaxPieces)
	var signals []impl.Signal
	for i := range impl.MaxSignals {
		signals = append(signals, post(i, i, 50, 1))
	}
	got := wantCount(t, "MaxSignals", n, signals, 100000, 60)
	if len(got[59].Steps) != 41 || len(got[0].Over) != 99 {
		t.Errorf("the last route has %d steps, the first one %d parts behind it", len(got[59].Steps), len(got[0].Over))
	}
	n = lone()
	n.Pieces[0].Len = impl.MaxLen
	signals = []impl.Signal{post(0, 0, 1, 1), post(1, 0, impl.MaxLen-200000, 1), post(2, 0, 1, -1)}
	got = wantCount(t, "MaxLen", n, signals, 100000, 3)
	if got[0].Parts[0] != (impl.Part{From: 1, To: 9800000}) || got[0].Over[0] != (impl.Part{From: 9800000, To: 9900000}) {
		t.Errorf("the first route is %v", got[0])
	}
}

func TestRoutesNeedRightSignals(t *testing.T) {
	wantNone := func(what string, n impl.Net, signals []impl.Signal) {
		t.Helper()
		if got := impl.Routes(n, signals, 0); len(got) != 0 {
			t.Errorf("%s: there are %d routes", what, len(got))
		}
	}
	if len(impl.Routes(yard(), posts(), 0)) == 0 {
		t.Fatal("right signals have no routes")
	}
	wantNone("no net", impl.Net{}, nil)
	wantNone("no net, signals", impl.Net{}, posts())
	for _, a := range netSpoils() {
		n := yard()
		a.do(&n)
		wantNone(a.what, n, posts())
	}
	for _, a := range signalSpoils() {
		s := posts()
		a.do(s)
		wantNone(a.what, yard(), s)
	}
	wantNone("too many", line(100), manyPosts(impl.MaxSignals+1))
	for _, x := range []int{farBelow, -1, 10, 1 << 32, farAbove} {
		s := posts()
		s[1].Piece = x
		wantNone("Piece "+strconv.Itoa(x), yard(), s)
		s = posts()
		s[1].At = x * 100
		wantNone("At "+strconv.Itoa(x*100), yard(), s)
	}
}

func TestRoutesAnyArgument(t *testing.T) {
	d := &dice{state: 4}
	right := 0
	for i := range 20000 {
		n, signals, over := d.net(), d.signals(), d.number()
		if i%2 == 0 {
			n = d.rightNet()
			signals = d.rightSignals(n, 6)
			over = d.below(20)
		}
		n, signals = copyOf(n), roomy(signals, impl.Signal{Name: "spare"})
		before := whole(copyOf(n))
		kept := append([]impl.Signal{}, signals[:cap(signals)]...)
		first := impl.Routes(n, signals, over)
		if !reflect.DeepEqual(whole(n), before) || !reflect.DeepEqual(signals[:cap(signals)], kept) {
			t.Fatalf("case %d: Routes writes into an argument", i)
		}
		wantApart(t, "case "+strconv.Itoa(i), first, n, signals)
		if again := impl.Routes(n, signals, over); !reflect.DeepEqual(again, first) {
			t.Fatalf("case %d: Routes is %v, then %v", i, first, again)
		}
		if len(first) > 0 {
			right++
		}
		if len(first) > 0 && (impl.SignalsOk(n, signals) != (impl.Fault{}) || over < 0 || over > 100000) {
			t.Fatalf("case %d: routes of what is not right", i)
		}
	}
	if right < 5000 {
		t.Errorf("%d cases alone had routes", right)
	}
}

func TestRoutesAreNewMemory(t *testing.T) {
	n := yard()
	signals := posts()
	first := impl.Routes(n, signals, 1000)
	want := routesText(n, first)
	for _, r := range first {
		spoil(r.Steps, impl.Step{Piece: -9})
		spoil(r.Parts, impl.Part{Piece: -9})
		spoil(r.Lies, impl.Lie{Joint: -9})
		spoil(r.Crosses, -9)
		spoil(r.Over, impl.Part{Piece: -9})
		spoil(r.Flanks, impl.Flank{At: -9})
	}
	if got := routesText(n, impl.Routes(n, signals, 1000)); got != want {
		t.Errorf("what is done with an answer changes the next one:\n%s\nnot\n%s", got, want)
	}
}

func spoil[T any](list []T, with T) {
	for i := range list {
		list[i] = with
	}
}

func TestRouteNumbers(t *testing.T) {
	got := []int{impl.MaxRoutes, impl.MaxOver, impl.FBuffer, impl.FSignal, impl.FSwitch, impl.FOpen}
	want := []int{300, 100000, 1, 2, 3, 4}
	if !reflect.DeepEqual(got, want) {
		t.Errorf("the numbers that the document names are %v, not %v", got, want)
	}
}

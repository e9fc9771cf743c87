package impl

const (
	MaxPieces = 100
	MaxJoints = 120
	MaxName   = 20
	MaxLen    = 10000000
	MaxSpeed  = 10000
	MaxBrake  = 1000
)

const (
	JEnd    = 1
	JPlain  = 2
	JSwitch = 3
	JCross  = 4
)

// Piece is a piece of track, with its length, its limit of speed, and how much trains brake on it.
type Piece struct {
	Name  string
	Len   int
	Speed int
	Brake int
}

// End is one of the two ends of a piece, 0 or 1.
type End struct {
	Piece int
	Side  int
}

// Joint is where ends meet: a buffer (one), a plain joint (two), a switch (its tip, left, right), a crossing (two that go through, and two others).
type Joint struct {
	Kind int
	Name string
	Ends []End
}

// Net is a track.
type Net struct {
	Pieces []Piece
	Joints []Joint
}

// Fault is what is wrong with a net, and at which piece or joint.
type Fault struct {
	Code int
	At   int
}

// jointKind is a kind of joint. The kinds are types of their own, so that whoever asks what is true of one kind alone names that kind.
type jointKind interface {
	ends() int
	// over is to which ends one comes over the joint from one of its ends, none at a buffer.
	over(end int) []int
}

type (
	bufferKind struct{}
	plainKind  struct{}
	switchKind struct{}
	crossKind  struct{}
)

func (bufferKind) ends() int { return 1 }
func (plainKind) ends() int  { return 2 }
func (switchKind) ends() int { return 3 }
func (crossKind) ends() int  { return 4 }

func (bufferKind) over(end int) []int { return nil }
func (plainKind) over(end int) []int  { return []int{1 - end} }
func (crossKind) over(end int) []int  { return []int{end ^ 1} }

func (switchKind) over(end int) []int {
	if end == 0 {
		return []int{1, 2}
	}
	return []int{0}
}

// kindOf is nil for a number that is no kind.
func kindOf(number int) jointKind {
	switch number {
	case JEnd:
		return bufferKind{}
	case JPlain:
		return plainKind{}
	case JSwitch:
		return switchKind{}
	case JCross:
		return crossKind{}
	}
	return nil
}

func hasName(k jointKind) bool {
	switch k.(type) {
	case switchKind, crossKind:
		return true
	}
	return false
}

// NetOk goes over the whole net once for each code, because a lower code at a late place comes ahead of a higher one at an early place.
func NetOk(n Net) Fault {
	if len(n.Pieces) == 0 || len(n.Pieces) > MaxPieces || len(n.Joints) > MaxJoints {
		return Fault{Code: 1}
	}
	for p := range n.Pieces {
		if !pieceOk(n.Pieces, p) {
			return Fault{Code: 2, At: p}
		}
	}
	for j := range n.Joints {
		if !endsOk(n, n.Joints[j]) {
			return Fault{Code: 3, At: j}
		}
	}
	for j := range n.Joints {
		if !jointNameOk(n.Joints, j) {
			return Fault{Code: 4, At: j}
		}
	}
	return looseEnd(n)
}

func nameOk(name string) bool {
	if len(name) < 1 || len(name) > MaxName {
		return false
	}
	for i := 0; i < len(name); i++ {
		if !nameByte(name[i]) {
			return false
		}
	}
	return true
}

func nameByte(c byte) bool {
	return c >= 'a' && c <= 'z' || c >= '0' && c <= '9' || c == '_'
}

func within(x, low, high int) bool { return x >= low && x <= high }

func pieceOk(pieces []Piece, p int) bool {
	x := pieces[p]
	if !nameOk(x.Name) || !within(x.Len, 1, MaxLen) || !within(x.Speed, 1, MaxSpeed) || !within(x.Brake, 1, MaxBrake) {
		return false
	}
	for _, ahead := range pieces[:p] {
		if ahead.Name == x.Name {
			return false
		}
	}
	return true
}

func endsOk(n Net, j Joint) bool {
	k := kindOf(j.Kind)
	if k == nil || len(j.Ends) != k.ends() {
		return false
	}
	for _, e := range j.Ends {
		if !within(e.Piece, 0, len(n.Pieces)-1) || !within(e.Side, 0, 1) {
			return false
		}
	}
	return true
}

// jointNameOk is asked of joints that have a kind.
func jointNameOk(joints []Joint, j int) bool {
	name := joints[j].Name
	if !hasName(kindOf(joints[j].Kind)) {
		return name == ""
	}
	if !nameOk(name) {
		return false
	}
	for _, ahead := range joints[:j] {
		if ahead.Name == name {
			return false
		}
	}
	return true
}

// looseEnd is asked of a net whose joints have ends that there are.
func looseEnd(n Net) Fault {
	var stands [MaxPieces][2]int
	for _, j := range n.Joints {
		for _, e := range j.Ends {
			stands[e.Piece][e.Side]++
		}
	}
	for p := range n.Pieces {
		if stands[p] != [2]int{1, 1} {
			return Fault{Code: 5, At: p}
		}
	}
	return Fault{}
}

const MaxSignals = 60

// Signal stands beside a piece, for those who look as it says.
type Signal struct {
	Name  string
	Piece int
	At    int
	Way   int
}

func SignalsOk(n Net, signals []Signal) Fault {
	if NetOk(n) != (Fault{}) {
		return Fault{Code: 1}
	}
	if len(signals) > MaxSignals {
		return Fault{Code: 2}
	}
	for i, s := range signals {
		if !signalOk(n, s) {
			return Fault{Code: 3, At: i}
		}
	}
	for i, s := range signals {
		if clashes(signals[:i], s) {
			return Fault{Code: 4, At: i}
		}
	}
	return Fault{}
}

func signalOk(n Net, s Signal) bool {
	if !nameOk(s.Name) || !within(s.Piece, 0, len(n.Pieces)-1) || s.Way != 1 && s.Way != -1 {
		return false
	}
	return within(s.At, 1, n.Pieces[s.Piece].Len-1)
}

func clashes(ahead []Signal, s Signal) bool {
	for _, a := range ahead {
		if a.Name == s.Name || a.Piece == s.Piece && a.At == s.At && a.Way == s.Way {
			return true
		}
	}
	return false
}

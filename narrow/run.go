package narrow

// variables is how many variables there are.
const variables = 6

// run is a run on its way.
type run struct {
	values [variables]value
	input  string
	taken  int // bytes of the input
	told   string
	out    string
}

// walk runs nodes from number 0 on, till a way leads behind the last one or an error ends it.
func walk(nodes []node, input string, fuel int) (string, string, Errno) {
	r := run{input: input}
	for i := range r.values {
		r.values[i] = value{kind: kindNull}
	}
	at := 0
	for steps := 0; at >= 0 && at < len(nodes); steps++ {
		if steps >= fuel {
			return r.told, r.out, ErrFuel
		}
		n := nodes[at]
		r.tell(at)
		e := r.step(n)
		if e != OK {
			return r.told, r.out, e
		}
		at = r.wayOf(n)
	}
	return r.told, r.out, OK
}

// tell tells of the step that a node begins.
func (r *run) tell(number int) {
	line := twoDigits(number)
	for _, v := range r.values {
		line += kindSign(v.kind)
	}
	r.told += line + " "
}

func (r *run) valueOf(variable int) value {
	if variable < 0 || variable >= variables {
		return value{}
	}
	return r.values[variable]
}

func (r *run) set(variable int, v value) {
	if variable >= 0 && variable < variables {
		r.values[variable] = v
	}
}

// step does what a node does, but for the choice of its way.
func (r *run) step(n node) Errno {
	y := r.valueOf(n.y)
	w := r.valueOf(n.w)
	taken := takenKinds(n.act)
	if y.kind&taken == 0 || w.kind&taken == 0 {
		return ErrKind
	}
	switch n.act {
	case actNever:
		return ErrNever
	case actCast:
		x := r.valueOf(n.x)
		if x.kind != n.kind {
			return ErrCast
		}
	case actPut:
		r.out += valueText(y) + " "
	case actInput:
		v := r.nextInput()
		r.set(n.x, v)
	case actTruth, actKind, actIdle:
		return OK
	default:
		v := given(n, y, w)
		r.set(n.x, v)
	}
	return OK
}

// given is the value that a node gives its variable, where the input has no part in it.
func given(n node, y value, w value) value {
	switch n.act {
	case actConstant:
		return n.constant
	case actSum:
		return sumOf(y, w)
	case actBelow:
		return isBelow(y, w)
	case actMakeA:
		return value{kind: kindA, number: y.number}
	case actMakeB:
		return value{kind: kindB, held: y.kind}
	case actOpen:
		return heldBy(y)
	}
	return y
}

// nextInput takes the next value of the input.
func (r *run) nextInput() value {
	if r.taken < 0 || r.taken >= len(r.input) {
		return value{kind: kindNull}
	}
	sign := r.input[r.taken]
	r.taken++
	return inputValue(sign)
}

// wayOf is where a run goes on behind a node.
func (r *run) wayOf(n node) int {
	y := r.valueOf(n.y)
	if holds(n, y) {
		return n.yes
	}
	return n.no
}

// holds tells whether a test of y holds; a node that is no test has but one way and counts as one that does.
func holds(n node, y value) bool {
	switch n.act {
	case actTruth:
		return takenAsTrue(y)
	case actKind:
		return y.kind == n.kind
	}
	return true
}

// twoDigits writes a number below 100.
func twoDigits(number int) string {
	digits := []byte{'0' + byte(number/10%10), '0' + byte(number%10)}
	return string(digits)
}

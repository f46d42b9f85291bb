package narrow

// reader reads a text byte by byte. Once a byte cannot stand where it stands,
// bad is set, at stays, and nothing more is read.
type reader struct {
	text string
	at   int
	bad  bool
}

// peek is the next byte, or 0, which can stand nowhere.
func (r *reader) peek() byte {
	if r.bad || r.at < 0 || r.at >= len(r.text) {
		return 0
	}
	return r.text[r.at]
}

// expect reads the bytes of wanted.
func (r *reader) expect(wanted string) {
	for i := 0; i < len(wanted); i++ {
		if r.peek() != wanted[i] {
			r.bad = true
			return
		}
		r.at++
	}
}

// since is what was read from a place on.
func (r *reader) since(place int) string {
	if place < 0 || place > r.at || r.at > len(r.text) {
		return ""
	}
	return r.text[place:r.at]
}

func isVariable(sign byte) bool {
	return sign >= 'a' && sign <= 'f'
}

// variable reads a variable and answers its number.
func (r *reader) variable() int {
	sign := r.peek()
	if !isVariable(sign) {
		r.bad = true
		return 0
	}
	r.at++
	return int(sign - 'a')
}

func (r *reader) kind() kinds {
	sign := r.peek()
	k := kindOfSign(sign)
	if k == 0 {
		r.bad = true
		return 0
	}
	r.at++
	return k
}

// action reads a node that is no test.
func (r *reader) action() node {
	switch r.peek() {
	case '^':
		r.at++
		y := r.variable()
		return node{act: actPut, y: y, w: y}
	case '!':
		r.at++
		return node{act: actNever}
	}
	x := r.variable()
	return r.change(x)
}

// change reads what stands behind x in a node that sets or casts it.
func (r *reader) change(x int) node {
	switch r.peek() {
	case '=':
		r.at++
		return r.assignment(x)
	case '~':
		r.at++
		k := r.kind()
		return node{act: actCast, x: x, kind: k}
	}
	r.bad = true
	return node{}
}

// assignment reads what stands behind `x=`.
func (r *reader) assignment(x int) node {
	sign := r.peek()
	if isVariable(sign) {
		y := r.variable()
		return node{act: actCopy, x: x, y: y, w: y}
	}
	c := constantOfSign(sign)
	if c.kind != 0 {
		r.at++
		return node{act: actConstant, x: x, constant: c}
	}
	act := actOfSign(sign)
	if act == actNone {
		r.bad = true
		return node{}
	}
	r.at++
	if act == actInput {
		return node{act: act, x: x}
	}
	y := r.variable()
	w := y
	if act == actSum || act == actBelow {
		w = r.variable()
	}
	return node{act: act, x: x, y: y, w: w}
}

// test reads a node that is a test.
func (r *reader) test() node {
	y := r.variable()
	return r.question(y)
}

// question reads what stands behind y in a test of it.
func (r *reader) question(y int) node {
	if r.peek() != ':' {
		return node{act: actTruth, y: y, w: y}
	}
	r.at++
	k := r.kind()
	return node{act: actKind, y: y, w: y, kind: k}
}

package narrow

// state is which kinds each variable can have at a moment.
// Where one of the sets is empty, no moment is like that: it stands for no state.
type state struct {
	sets [variables]kinds
}

// firstState is the state in which runs begin.
func firstState() state {
	s := state{}
	for i := range s.sets {
		s.sets[i] = kindNull
	}
	return s
}

func (s *state) exists() bool {
	for _, k := range s.sets {
		if k == 0 {
			return false
		}
	}
	return true
}

func (s *state) kindsOf(variable int) kinds {
	if variable < 0 || variable >= variables {
		return 0
	}
	return s.sets[variable]
}

func (s *state) set(variable int, k kinds) {
	if variable >= 0 && variable < variables {
		s.sets[variable] = k
	}
}

// keep lets only some kinds of a variable stay.
func (s *state) keep(variable int, stay kinds) {
	k := s.kindsOf(variable)
	s.set(variable, k&stay)
}

// joined is the least state within which both lie. A state that is none adds nothing.
func joined(s state, t state) state {
	if !t.exists() {
		return s
	}
	for i, k := range t.sets {
		s.sets[i] |= k
	}
	return s
}

// stateAlong is the state that comes along a way of a node from the one ahead of it;
// if it is a test, along the way that is taken if it holds, or if not.
func stateAlong(n node, ahead state, holds bool) state {
	s := ahead
	taken := takenKinds(n.act)
	s.keep(n.y, taken)
	s.keep(n.w, taken)
	switch n.act {
	case actNever:
		return state{}
	case actCast:
		s.keep(n.x, n.kind)
	case actTruth, actKind:
		way := kindsAlong(n, holds)
		s.keep(n.y, way)
	}
	// What is set below may be a variable of which no kind has stayed.
	if !s.exists() || !setsVariable(n.act) {
		return s
	}
	y := s.kindsOf(n.y)
	k := kindsGiven(n, y)
	s.set(n.x, k)
	return s
}

// kindsAlong are the kinds of which there are values for which a test holds, or does not.
func kindsAlong(n node, holds bool) kinds {
	yes := n.kind
	no := allKinds &^ n.kind
	if n.act == actTruth {
		yes = allKinds &^ (kindFalse | kindNull)
		no = kindNumber | kindFalse | kindNull
	}
	if holds {
		return yes
	}
	return no
}

// kindsGiven are the kinds that a node can give its variable, if what it reads is of the kinds y.
func kindsGiven(n node, y kinds) kinds {
	switch n.act {
	case actConstant:
		return n.constant.kind
	case actInput:
		return allKinds
	case actSum:
		return kindNumber
	case actBelow:
		return kindTrue | kindFalse
	case actMakeA:
		return kindA
	case actMakeB:
		return kindB
	case actOpen:
		return kindsHeld(y)
	}
	return y
}

// kindsHeld are the kinds of what records of some kinds can hold.
func kindsHeld(records kinds) kinds {
	held := kinds(0)
	if records&kindA != 0 {
		held |= kindNumber
	}
	if records&kindB != 0 {
		held |= truthKinds
	}
	return held
}

// kindsText writes a set of kinds, in their order.
func kindsText(set kinds) string {
	text := ""
	for k := kindNumber; k <= kindC; k *= 2 {
		if set&k != 0 {
			sign := kindSign(k)
			text += sign
		}
	}
	return text
}

// stateText writes a state as a table has it, less the semicolon.
func stateText(s state) string {
	if !s.exists() {
		return "?"
	}
	text := ""
	for _, k := range s.sets {
		signs := kindsText(k)
		text += signs + "."
	}
	return text
}

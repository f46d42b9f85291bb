package narrow

// What a node does.
const (
	actNone     = 0 // of no node
	actConstant = 1
	actInput    = 2
	actCopy     = 3
	actSum      = 4
	actBelow    = 5
	actMakeA    = 6
	actMakeB    = 7
	actOpen     = 8
	actPut      = 9
	actCast     = 10
	actNever    = 11
	actTruth    = 12
	actKind     = 13
	actIdle     = 14
	actJump     = 15 // no node: a place of a source from where a run goes on elsewhere
)

// node is a node with its ways. The fields that its act has no use for are 0.
type node struct {
	text     string // as it stands in a source or a graph, less its ways
	act      int
	x        int   // the variable that is set or cast
	y        int   // the variable that is read
	w        int   // the second one that is read; y again, where there is but one
	constant value // of actConstant
	kind     kinds // of actCast and actKind
	yes      int   // where it goes on
	no       int   // where it goes on, if it is a test that does not hold; else as yes
}

func isTest(act int) bool {
	return act == actTruth || act == actKind
}

// setsVariable tells whether a node with this act gives x a value.
func setsVariable(act int) bool {
	switch act {
	case actConstant, actInput, actCopy, actSum, actBelow, actMakeA, actMakeB, actOpen:
		return true
	}
	return false
}

// takenKinds are the kinds that an act takes of the variables that it reads.
func takenKinds(act int) kinds {
	switch act {
	case actSum, actBelow, actMakeA:
		return kindNumber
	case actMakeB:
		return truthKinds
	case actOpen:
		return recordKinds
	}
	return allKinds
}

// actOfSign is the act of the node `x=` with this sign behind it, where that is no constant and no variable.
func actOfSign(sign byte) int {
	switch sign {
	case '?':
		return actInput
	case '+':
		return actSum
	case '<':
		return actBelow
	case 'A':
		return actMakeA
	case 'B':
		return actMakeB
	case '.':
		return actOpen
	}
	return actNone
}

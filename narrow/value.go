package narrow

import "strconv"

// kinds is a set of kinds, a bit for each. What kind one value has is a set of one.
type kinds int

const (
	kindNumber kinds = 1
	kindTrue   kinds = 2
	kindFalse  kinds = 4
	kindNull   kinds = 8
	kindA      kinds = 16
	kindB      kinds = 32
	kindC      kinds = 64

	truthKinds  = kindTrue | kindFalse | kindNull
	recordKinds = kindA | kindB
	allKinds    = kindNumber | truthKinds | recordKinds | kindC
)

// numbers is how many numbers there are: a sum from here on wraps around.
const numbers = 1000

// value is a value of any kind; the fields that its kind has no use for are 0.
type value struct {
	kind   kinds
	number int   // a number, or the one that an A holds
	held   kinds // the kind of what a B holds, which says all of it
}

// kindSign writes one kind.
func kindSign(k kinds) string {
	switch k {
	case kindNumber:
		return "n"
	case kindTrue:
		return "t"
	case kindFalse:
		return "f"
	case kindNull:
		return "z"
	case kindA:
		return "A"
	case kindB:
		return "B"
	case kindC:
		return "C"
	}
	return ""
}

// kindOfSign is the kind that a sign stands for, or the empty set.
func kindOfSign(sign byte) kinds {
	switch sign {
	case 'n':
		return kindNumber
	case 't':
		return kindTrue
	case 'f':
		return kindFalse
	case 'z':
		return kindNull
	case 'A':
		return kindA
	case 'B':
		return kindB
	case 'C':
		return kindC
	}
	return 0
}

// constantOfSign is the value that a sign stands for in a node and in the input alike.
// Where it stands for none, the answer's kind is the empty set.
func constantOfSign(sign byte) value {
	if sign >= '0' && sign <= '9' {
		return value{kind: kindNumber, number: int(sign - '0')}
	}
	switch sign {
	case 'T':
		return value{kind: kindTrue}
	case 'F':
		return value{kind: kindFalse}
	case 'Z':
		return value{kind: kindNull}
	case 'C':
		return value{kind: kindC}
	}
	return value{}
}

// inputValue is the value that a byte of the input stands for.
func inputValue(sign byte) value {
	switch sign {
	case 'A':
		return value{kind: kindA}
	case 'B':
		return value{kind: kindB, held: kindNull}
	}
	v := constantOfSign(sign)
	if v.kind == 0 {
		return value{kind: kindNull}
	}
	return v
}

func sumOf(y value, w value) value {
	sum := y.number + w.number
	if sum >= numbers {
		sum -= numbers
	}
	return value{kind: kindNumber, number: sum}
}

func isBelow(y value, w value) value {
	if y.number < w.number {
		return value{kind: kindTrue}
	}
	return value{kind: kindFalse}
}

// heldBy is what a record holds, an A or a B.
func heldBy(record value) value {
	if record.kind == kindA {
		return value{kind: kindNumber, number: record.number}
	}
	return value{kind: record.held}
}

func takenAsTrue(v value) bool {
	switch v.kind {
	case kindFalse, kindNull:
		return false
	case kindNumber:
		return v.number != 0
	}
	return true
}

// valueText writes a value as it is put out, less the blank.
func valueText(v value) string {
	switch v.kind {
	case kindNumber:
		return strconv.Itoa(v.number)
	case kindA:
		return "A" + strconv.Itoa(v.number)
	case kindB:
		return "B" + plainText(v.held)
	}
	return plainText(v.kind)
}

// plainText writes the value of a kind that has but one.
func plainText(k kinds) string {
	switch k {
	case kindTrue:
		return "T"
	case kindFalse:
		return "F"
	case kindNull:
		return "Z"
	case kindC:
		return "C"
	}
	return ""
}

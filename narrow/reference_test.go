package narrow_test

import (
	"regexp"
	"strconv"
	"strings"
	"testing"

	"narrow/narrow"
)

// This file runs sources in a second way, that shares nothing with the program:
// the text becomes a tree of functions, and a value is the text by which it is put out.

var (
	actionForm = regexp.MustCompile(`^(?:[a-f]=(?:[0-9TFZC?]|[a-f]|[+<][a-f][a-f]|[AB.][a-f])|\^[a-f]|[a-f]~[ntfzABC]|!);`)
	testForm   = regexp.MustCompile(`^[a-f](?::[ntfzABC])?`)
)

// machine is a run of the second way. It ends early by a panic with an Errno.
type machine struct {
	values [6]string
	input  string
	fuel   int
	told   string
	out    string
}

// after is how statements ended.
type after int

const (
	goOn after = iota
	leave
	again
)

type statement func(*machine) after
type condition func(*machine) bool

// tree reads a source; it panics with ErrForm, if it is none.
type tree struct {
	rest  string
	nodes int
}

func (r *tree) cut(prefix string) bool {
	rest, found := strings.CutPrefix(r.rest, prefix)
	r.rest = rest
	return found
}

func (r *tree) need(prefix string) {
	if !r.cut(prefix) {
		panic(narrow.ErrForm)
	}
}

func (r *tree) number() int {
	r.nodes++
	return r.nodes - 1
}

func (r *tree) statements(inLoop bool) statement {
	list := []statement{}
	for r.rest != "" && r.rest[0] != '}' {
		list = append(list, r.statement(inLoop))
	}
	return func(m *machine) after {
		for _, s := range list {
			if a := s(m); a != goOn {
				return a
			}
		}
		return goOn
	}
}

func (r *tree) statement(inLoop bool) statement {
	switch {
	case r.cut("("):
		c := r.condition()
		r.need("{")
		yes := r.statements(inLoop)
		r.need("}{")
		no := r.statements(inLoop)
		r.need("})")
		return func(m *machine) after {
			if c(m) {
				return yes(m)
			}
			return no(m)
		}
	case r.cut("["):
		c := r.condition()
		r.need("{")
		body := r.statements(true)
		r.need("}]")
		return func(m *machine) after {
			for c(m) {
				if body(m) == leave {
					break
				}
			}
			return goOn
		}
	case inLoop && r.cut(">;"):
		return func(*machine) after { return leave }
	case inLoop && r.cut("<;"):
		return func(*machine) after { return again }
	}
	action := actionForm.FindString(r.rest)
	if action == "" {
		panic(narrow.ErrForm)
	}
	r.need(action)
	number := r.number()
	return func(m *machine) after {
		m.begin(number)
		m.act(strings.TrimSuffix(action, ";"))
		return goOn
	}
}

func (r *tree) condition() condition {
	switch {
	case r.cut("!"):
		c := r.condition()
		return func(m *machine) bool { return !c(m) }
	case r.cut("&"):
		c := r.condition()
		d := r.condition()
		return func(m *machine) bool { return c(m) && d(m) }
	case r.cut("|"):
		c := r.condition()
		d := r.condition()
		return func(m *machine) bool { return c(m) || d(m) }
	}
	test := testForm.FindString(r.rest)
	if test == "" {
		panic(narrow.ErrForm)
	}
	r.need(test)
	number := r.number()
	return func(m *machine) bool {
		m.begin(number)
		v := m.values[test[0]-'a']
		if len(test) == 3 {
			return kindOf(v) == test[2:]
		}
		return v != "0" && v != "F" && v != "Z"
	}
}

func kindOf(v string) string {
	switch v[0] {
	case 'T', 'F', 'Z':
		return strings.ToLower(v)
	case 'A', 'B', 'C':
		return v[:1]
	}
	return "n"
}

func (m *machine) begin(number int) {
	if m.fuel == 0 {
		panic(narrow.ErrFuel)
	}
	m.fuel--
	text := strconv.Itoa(100 + number)[1:]
	for _, v := range m.values {
		text += kindOf(v)
	}
	m.told += text + " "
}

// take answers the values of variables, all of which must be of one of some kinds.
func (m *machine) take(names string, kinds string) []string {
	values := []string{}
	for i := range names {
		v := m.values[names[i]-'a']
		if !strings.Contains(kinds, kindOf(v)) {
			panic(narrow.ErrKind)
		}
		values = append(values, v)
	}
	return values
}

func (m *machine) act(action string) {
	switch {
	case action == "!":
		panic(narrow.ErrNever)
	case action[0] == '^':
		m.out += m.values[action[1]-'a'] + " "
	case action[1] == '~':
		if kindOf(m.values[action[0]-'a']) != action[2:] {
			panic(narrow.ErrCast)
		}
	default:
		m.values[action[0]-'a'] = m.given(action[2], action[3:])
	}
}

func (m *machine) given(sign byte, names string) string {
	switch sign {
	case '?':
		return m.next()
	case '+':
		v := m.take(names, "n")
		y, _ := strconv.Atoi(v[0])
		w, _ := strconv.Atoi(v[1])
		return strconv.Itoa((y + w) % 1000)
	case '<':
		v := m.take(names, "n")
		y, _ := strconv.Atoi(v[0])
		w, _ := strconv.Atoi(v[1])
		return map[bool]string{true: "T", false: "F"}[y < w]
	case 'A':
		return "A" + m.take(names, "n")[0]
	case 'B':
		return "B" + m.take(names, "tfz")[0]
	case '.':
		return m.take(names, "AB")[0][1:]
	}
	if sign >= 'a' && sign <= 'f' {
		return m.values[sign-'a']
	}
	return string(rune(sign))
}

func (m *machine) next() string {
	if m.input == "" {
		return "Z"
	}
	sign := m.input[:1]
	m.input = m.input[1:]
	switch {
	case strings.Contains("0123456789TFC", sign):
		return sign
	case sign == "A":
		return "A0"
	case sign == "B":
		return "BZ"
	}
	return "Z"
}

// runSecond is Run in the second way, within the limits.
func runSecond(source, input string, fuel int) (told, out string, e narrow.Errno) {
	m := machine{values: [6]string{"Z", "Z", "Z", "Z", "Z", "Z"}, input: input, fuel: fuel}
	defer func() {
		if ended := recover(); ended != nil {
			told, out, e = m.told, m.out, ended.(narrow.Errno)
		}
	}()
	r := tree{rest: source}
	all := r.statements(false)
	if r.rest != "" {
		panic(narrow.ErrForm)
	}
	all(&m)
	return m.told, m.out, narrow.OK
}

func compare(t *testing.T, source, input string, fuel int) narrow.Errno {
	t.Helper()
	told, out, e := narrow.Run(source, input, fuel)
	wantTold, wantOut, wantE := runSecond(source, input, fuel)
	if told != wantTold || out != wantOut || e != wantE {
		t.Fatalf("P3 to P6: Run(%q, %q, %d) = %q, %q, %d, want %q, %q, %d", source, input, fuel, told, out, e, wantTold, wantOut, wantE)
	}
	return e
}

// dice are numbers without a visible order, the same ones each time.
type dice struct{ state uint64 }

func (d *dice) below(bound int) int {
	d.state = d.state*6364136223846793005 + 1442695040888963407
	return int(d.state >> 33 % uint64(bound))
}

func (d *dice) pick(choices string) string {
	i := d.below(len(choices))
	return choices[i : i+1]
}

func (d *dice) text(alphabet string, length int) string {
	text := ""
	for len(text) < length {
		text += d.pick(alphabet)
	}
	return text
}

func (d *dice) variable() string { return d.pick("aaabbcdef") }

func (d *dice) condition(depth int) string {
	switch c := d.below(6 + 2*depth); {
	case c < 3:
		return d.variable()
	case c < 6:
		return d.variable() + ":" + d.pick("ntfzABC")
	case c == 6:
		return "!" + d.condition(depth-1)
	default:
		return d.pick("&|") + d.condition(depth-1) + d.condition(depth-1)
	}
}

func (d *dice) action() string {
	x, y, w := d.variable(), d.variable(), d.variable()
	switch d.below(18) {
	case 0, 1, 2:
		return x + "=" + d.pick("0123456789TFZC") + ";"
	case 3, 4, 5:
		return x + "=?;"
	case 6:
		return x + "=" + y + ";"
	case 7:
		return x + "=+" + y + w + ";"
	case 8:
		return x + "=<" + y + w + ";"
	case 9:
		return x + "=" + d.pick("AB.") + y + ";"
	case 10:
		return x + "~" + d.pick("ntfzABC") + ";"
	case 11:
		return "!;"
	case 12, 13:
		// A node that meets what it takes, so that runs go further.
		return "(" + y + ":n{" + x + "=+" + y + y + ";}{^" + y + ";})"
	}
	return "^" + y + ";"
}

func (d *dice) statements(depth int, inLoop bool) string {
	text := ""
	for n := d.below(4); n > 0; n-- {
		switch c := d.below(10); {
		case c < 2 && depth > 0:
			text += "(" + d.condition(2) + "{" + d.statements(depth-1, inLoop) + "}{" + d.statements(depth-1, inLoop) + "})"
		case c < 4 && depth > 0:
			text += "[" + d.condition(2) + "{" + d.statements(depth-1, true) + "}]"
		case c == 4 && inLoop:
			text += d.pick("<>") + ";"
		default:
			text += d.action()
		}
	}
	return text
}

const alphabet = "aabf=;~:^!&|()[]{}<>?+.ABCTFZnz09,* \x00"

// TestSecondWay: sources, and the same with a byte changed, left out or put in.
func TestSecondWay(t *testing.T) {
	d := dice{1}
	count := map[narrow.Errno]int{}
	for i := 0; i < 60000; i++ {
		source := d.statements(4, false)
		if d.below(4) == 0 && source != "" {
			at := d.below(len(source))
			source = source[:at] + d.text(alphabet, d.below(2)) + source[at+d.below(2):]
		}
		if len(source) > 180 {
			continue
		}
		input := d.text("00123456789TTFFZZAABBCCx ", d.below(12))
		count[compare(t, source, input, d.below(60))]++
	}
	for _, e := range []narrow.Errno{narrow.OK, narrow.ErrForm, narrow.ErrFuel, narrow.ErrKind, narrow.ErrNever, narrow.ErrCast} {
		if count[e] < 100 {
			t.Errorf("only %d runs ended by %d", count[e], e)
		}
	}
}

// TestShort: every text of up to three bytes of the alphabet.
func TestShort(t *testing.T) {
	texts := []string{""}
	for length := 0; length <= 3; length++ {
		longer := []string{}
		for _, text := range texts {
			compare(t, text, "1", 2)
			for i := range alphabet {
				longer = append(longer, text+alphabet[i:i+1])
			}
		}
		texts = longer
	}
}

// TestEachByte: every byte at every place of a source.
func TestEachByte(t *testing.T) {
	source := "[|!a:A&bf{a=1;b=+ac;(c{>;}{d=.e;<;})f~t;!;^a;}]b=<cd;c=?;c=Ba;"
	for at := range source {
		for b := 0; b < 256; b++ {
			compare(t, source[:at]+string([]byte{byte(b)})+source[at+1:], "", 9)
			compare(t, source[:at]+string([]byte{byte(b)})+source[at:], "", 9)
		}
		compare(t, source[:at]+source[at+1:], "", 9)
	}
}

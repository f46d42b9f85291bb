package narrow_test

import (
	"fmt"
	"regexp"
	"strconv"
	"strings"
	"testing"

	"narrow/narrow"
)

// This file runs sources and links their graphs in a second way, that shares nothing with the program:
// the text becomes a tree of functions, and a value is the text by which it is put out.

var (
	actionForm = regexp.MustCompile(`^(?:[a-f]=(?:[0-9TFZC?]|[a-f]|[+<][a-f][a-f]|[AB.][a-f])|\^[a-f]|[a-f]~[ntfzABC]|!);`)
	testForm   = regexp.MustCompile(`^[a-f](?::[ntfzABC])?`)
	lineForm   = regexp.MustCompile(`^(!|([^!(),;]+),([0-9]{2})(?:,([0-9]{2}))?);`)
)

// machine is a run of the second way. It ends early by a panic with an Errno.
type machine struct {
	values [6]string
	input  string
	fuel   int
	told   string
	out    string
}

// after is how statements ended.
type after int

const (
	goOn after = iota
	leave
	again
)

// statement can be run, and linked from its end to its beginning: link lays its lines,
// given where a run goes on behind it, and at the head of and behind the loop around it,
// and answers where it begins.
type statement struct {
	run  func(m *machine) after
	link func(lines []string, next, head, behind int) int
}

// condition is as a statement, but goes on at yes or at no. first is the number of its first test.
type condition struct {
	first int
	run   func(m *machine) bool
	link  func(lines []string, yes, no int) int
}

// tree reads a source; it panics with ErrForm, if it is none.
type tree struct {
	rest  string
	nodes int
}

func (r *tree) cut(prefix string) bool {
	rest, found := strings.CutPrefix(r.rest, prefix)
	r.rest = rest
	return found
}

func (r *tree) need(prefix string) {
	if !r.cut(prefix) {
		panic(narrow.ErrForm)
	}
}

func (r *tree) number() int {
	r.nodes++
	return r.nodes - 1
}

func (r *tree) statements(inLoop bool) statement {
	list := []statement{}
	for r.rest != "" && r.rest[0] != '}' {
		list = append(list, r.statement(inLoop))
	}
	run := func(m *machine) after {
		for _, s := range list {
			if a := s.run(m); a != goOn {
				return a
			}
		}
		return goOn
	}
	link := func(lines []string, next, head, behind int) int {
		for i := len(list) - 1; i >= 0; i-- {
			next = list[i].link(lines, next, head, behind)
		}
		return next
	}
	return statement{run, link}
}

func (r *tree) statement(inLoop bool) statement {
	switch {
	case r.cut("("):
		c := r.condition()
		r.need("{")
		yes := r.statements(inLoop)
		r.need("}{")
		no := r.statements(inLoop)
		r.need("})")
		run := func(m *machine) after {
			if c.run(m) {
				return yes.run(m)
			}
			return no.run(m)
		}
		link := func(lines []string, next, head, behind int) int {
			return c.link(lines, yes.link(lines, next, head, behind), no.link(lines, next, head, behind))
		}
		return statement{run, link}
	case r.cut("["):
		c := r.condition()
		r.need("{")
		body := r.statements(true)
		r.need("}]")
		run := func(m *machine) after {
			for c.run(m) {
				if body.run(m) == leave {
					break
				}
			}
			return goOn
		}
		link := func(lines []string, next, head, behind int) int {
			return c.link(lines, body.link(lines, c.first, c.first, next), next)
		}
		return statement{run, link}
	case inLoop && r.cut(">;"):
		return statement{
			func(m *machine) after { return leave },
			func(lines []string, next, head, behind int) int { return behind },
		}
	case inLoop && r.cut("<;"):
		return statement{
			func(m *machine) after { return again },
			func(lines []string, next, head, behind int) int { return head },
		}
	}
	action := actionForm.FindString(r.rest)
	if action == "" {
		panic(narrow.ErrForm)
	}
	r.need(action)
	number := r.number()
	action = strings.TrimSuffix(action, ";")
	run := func(m *machine) after {
		m.begin(number)
		m.act(action)
		return goOn
	}
	link := func(lines []string, next, head, behind int) int {
		lines[number] = fmt.Sprintf("%s,%02d;", action, next)
		if action == "!" {
			lines[number] = "!;"
		}
		return number
	}
	return statement{run, link}
}

func (r *tree) condition() condition {
	switch {
	case r.cut("!"):
		c := r.condition()
		return condition{c.first,
			func(m *machine) bool { return !c.run(m) },
			func(lines []string, yes, no int) int { return c.link(lines, no, yes) },
		}
	case r.cut("&"):
		c := r.condition()
		d := r.condition()
		return condition{c.first,
			func(m *machine) bool { return c.run(m) && d.run(m) },
			func(lines []string, yes, no int) int { return c.link(lines, d.link(lines, yes, no), no) },
		}
	case r.cut("|"):
		c := r.condition()
		d := r.condition()
		return condition{c.first,
			func(m *machine) bool { return c.run(m) || d.run(m) },
			func(lines []string, yes, no int) int { return c.link(lines, yes, d.link(lines, yes, no)) },
		}
	}
	test := testForm.FindString(r.rest)
	if test == "" {
		panic(narrow.ErrForm)
	}
	r.need(test)
	number := r.number()
	run := func(m *machine) bool {
		m.begin(number)
		return m.holds(test)
	}
	link := func(lines []string, yes, no int) int {
		lines[number] = fmt.Sprintf("%s,%02d,%02d;", test, yes, no)
		return number
	}
	return condition{number, run, link}
}

func kindOf(v string) string {
	switch v[0] {
	case 'T', 'F', 'Z':
		return strings.ToLower(v)
	case 'A', 'B', 'C':
		return v[:1]
	}
	return "n"
}

func (m *machine) begin(number int) {
	if m.fuel == 0 {
		panic(narrow.ErrFuel)
	}
	m.fuel--
	text := strconv.Itoa(100 + number)[1:]
	for _, v := range m.values {
		text += kindOf(v)
	}
	m.told += text + " "
}

// take answers the values of variables, all of which must be of one of some kinds.
func (m *machine) take(names string, kinds string) []string {
	values := []string{}
	for i := range names {
		v := m.values[names[i]-'a']
		if !strings.Contains(kinds, kindOf(v)) {
			panic(narrow.ErrKind)
		}
		values = append(values, v)
	}
	return values
}

func (m *machine) holds(test string) bool {
	v := m.values[test[0]-'a']
	if len(test) == 3 {
		return kindOf(v) == test[2:]
	}
	return v != "0" && v != "F" && v != "Z"
}

func (m *machine) act(action string) {
	switch {
	case action == "!":
		panic(narrow.ErrNever)
	case action[0] == '^':
		m.out += m.values[action[1]-'a'] + " "
	case action[1] == '~':
		if kindOf(m.values[action[0]-'a']) != action[2:] {
			panic(narrow.ErrCast)
		}
	default:
		m.values[action[0]-'a'] = m.given(action[2], action[3:])
	}
}

func (m *machine) given(sign byte, names string) string {
	switch sign {
	case '?':
		return m.next()
	case '+':
		v := m.take(names, "n")
		y, _ := strconv.Atoi(v[0])
		w, _ := strconv.Atoi(v[1])
		return strconv.Itoa((y + w) % 1000)
	case '<':
		v := m.take(names, "n")
		y, _ := strconv.Atoi(v[0])
		w, _ := strconv.Atoi(v[1])
		return map[bool]string{true: "T", false: "F"}[y < w]
	case 'A':
		return "A" + m.take(names, "n")[0]
	case 'B':
		return "B" + m.take(names, "tfz")[0]
	case '.':
		return m.take(names, "AB")[0][1:]
	}
	if sign >= 'a' && sign <= 'f' {
		return m.values[sign-'a']
	}
	return string(rune(sign))
}

func (m *machine) next() string {
	if m.input == "" {
		return "Z"
	}
	sign := m.input[:1]
	m.input = m.input[1:]
	switch {
	case strings.Contains("0123456789TFC", sign):
		return sign
	case sign == "A":
		return "A0"
	case sign == "B":
		return "BZ"
	}
	return "Z"
}

// runs calls what runs a new machine, and answers as Run does.
func runs(input string, fuel int, running func(m *machine)) (told, out string, e narrow.Errno) {
	m := machine{values: [6]string{"Z", "Z", "Z", "Z", "Z", "Z"}, input: input, fuel: fuel}
	defer func() {
		if ended := recover(); ended != nil {
			told, out, e = m.told, m.out, ended.(narrow.Errno)
		}
	}()
	running(&m)
	return m.told, m.out, narrow.OK
}

// treeOf is the tree of a source and how many nodes it has; it panics with ErrForm, if it is none.
func treeOf(source string) (statement, int) {
	r := tree{rest: source}
	all := r.statements(false)
	if r.rest != "" {
		panic(narrow.ErrForm)
	}
	return all, r.nodes
}

// runSecond is Run in the second way, within the limits.
func runSecond(source, input string, fuel int) (told, out string, e narrow.Errno) {
	return runs(input, fuel, func(m *machine) {
		all, _ := treeOf(source)
		all.run(m)
	})
}

// graphSecond is Graph in the second way, of a source within the limits.
func graphSecond(source string) string {
	all, nodes := treeOf(source)
	lines := make([]string, nodes)
	all.link(lines, nodes, -1, -1)
	return strings.Join(lines, "")
}

// lineParts are a node, and where it goes on, if it holds and if not; it panics with ErrForm, if it is no line.
func lineParts(line string) (string, int, int) {
	parts := lineForm.FindStringSubmatch(line)
	if parts == nil {
		panic(narrow.ErrForm)
	}
	node := parts[2]
	yes, _ := strconv.Atoi(parts[3])
	no, _ := strconv.Atoi(parts[4])
	switch {
	case parts[1] == "!":
		return "!", 0, 0
	case parts[4] != "" && testForm.FindString(node) == node:
		return node, yes, no
	case parts[4] == "" && (node == "*" || actionForm.MatchString(node+";")):
		return node, yes, yes
	}
	panic(narrow.ErrForm)
}

// walkSecond is Walk in the second way, within the limits but for how many lines there are.
func walkSecond(graph, input string, fuel int) (told, out string, e narrow.Errno) {
	return runs(input, fuel, func(m *machine) {
		lines := strings.SplitAfter(graph, ";")
		if lines[len(lines)-1] != "" {
			panic(narrow.ErrForm)
		}
		lines = lines[:len(lines)-1]
		farthest := 0
		for _, line := range lines {
			_, yes, no := lineParts(line)
			farthest = max(farthest, yes, no)
		}
		if len(lines) > 90 {
			panic(narrow.ErrForm)
		}
		if farthest > len(lines) {
			panic(narrow.ErrLink)
		}
		for at := 0; at < len(lines); {
			node, yes, no := lineParts(lines[at])
			m.begin(at)
			at = yes
			switch {
			case node == "*":
			case testForm.FindString(node) != node:
				m.act(node)
			case !m.holds(node):
				at = no
			}
		}
	})
}

func compare(t *testing.T, source, input string, fuel int) narrow.Errno {
	t.Helper()
	told, out, e := narrow.Run(source, input, fuel)
	wantTold, wantOut, wantE := runSecond(source, input, fuel)
	if told != wantTold || out != wantOut || e != wantE {
		t.Fatalf("P3 to P6: Run(%q, %q, %d) = %q, %q, %d, want %q, %q, %d", source, input, fuel, told, out, e, wantTold, wantOut, wantE)
	}
	return e
}

// dice are numbers without a visible order, the same ones each time.
type dice struct{ state uint64 }

func (d *dice) below(bound int) int {
	d.state = d.state*6364136223846793005 + 1442695040888963407
	return int(d.state >> 33 % uint64(bound))
}

func (d *dice) pick(choices string) string {
	i := d.below(len(choices))
	return choices[i : i+1]
}

func (d *dice) text(alphabet string, length int) string {
	text := ""
	for len(text) < length {
		text += d.pick(alphabet)
	}
	return text
}

func (d *dice) variable() string { return d.pick("aaabbcdef") }

func (d *dice) condition(depth int) string {
	switch c := d.below(6 + 2*depth); {
	case c < 3:
		return d.variable()
	case c < 6:
		return d.variable() + ":" + d.pick("ntfzABC")
	case c == 6:
		return "!" + d.condition(depth-1)
	default:
		return d.pick("&|") + d.condition(depth-1) + d.condition(depth-1)
	}
}

// action is a node that is no test.
func (d *dice) action() string {
	x, y, w := d.variable(), d.variable(), d.variable()
	switch d.below(16) {
	case 0, 1, 2:
		return x + "=" + d.pick("0123456789TFZC")
	case 3, 4, 5:
		return x + "=?"
	case 6:
		return x + "=" + y
	case 7:
		return x + "=+" + y + w
	case 8:
		return x + "=<" + y + w
	case 9:
		return x + "=" + d.pick("AB.") + y
	case 10:
		return x + "~" + d.pick("ntfzABC")
	case 11:
		return "!"
	}
	return "^" + y
}

// doubling is a statement whose node meets what it takes, so that runs go further.
func (d *dice) doubling() string {
	x, y := d.variable(), d.variable()
	return "(" + y + ":n{" + x + "=+" + y + y + ";}{^" + y + ";})"
}

func (d *dice) statements(depth int, inLoop bool) string {
	text := ""
	for n := d.below(4); n > 0; n-- {
		switch c := d.below(10); {
		case c < 2 && depth > 0:
			text += "(" + d.condition(2) + "{" + d.statements(depth-1, inLoop) + "}{" + d.statements(depth-1, inLoop) + "})"
		case c < 4 && depth > 0:
			text += "[" + d.condition(2) + "{" + d.statements(depth-1, true) + "}]"
		case c == 4 && inLoop:
			text += d.pick("<>") + ";"
		case c == 5:
			text += d.doubling()
		default:
			text += d.action() + ";"
		}
	}
	return text
}

// line is a line of a graph, with ways of up to farthest.
func (d *dice) line(farthest int) string {
	yes, no := fmt.Sprintf(",%02d", d.below(farthest+1)), fmt.Sprintf(",%02d", d.below(farthest+1))
	switch c := d.below(10); {
	case c == 0:
		return "*" + yes + ";"
	case c < 5:
		return d.condition(0) + yes + no + ";"
	}
	action := d.action()
	if action == "!" {
		return "!;"
	}
	return action + yes + ";"
}

func (d *dice) graph(lines int) string {
	text := ""
	for i := 0; i < lines; i++ {
		text += d.line(lines)
	}
	return text
}

// damaged is a text with a byte changed, left out or put in, or the text itself.
func (d *dice) damaged(text string) string {
	at := d.below(len(text) + 1)
	return text[:at] + d.text(alphabet, d.below(2)) + text[min(len(text), at+d.below(2)):]
}

const alphabet = "aabf=;~:^!&|()[]{}<>?+.ABCTFZnz09,* \x00"

// TestSecondWay: sources, and the same with a byte changed, left out or put in.
func TestSecondWay(t *testing.T) {
	d := dice{1}
	count := map[narrow.Errno]int{}
	for i := 0; i < 60000; i++ {
		source := d.statements(4, false)
		if d.below(4) == 0 {
			source = d.damaged(source)
		}
		if len(source) > 180 {
			continue
		}
		input := d.text("00123456789TTFFZZAABBCCx ", d.below(12))
		count[compare(t, source, input, d.below(60))]++
	}
	for _, e := range []narrow.Errno{narrow.OK, narrow.ErrForm, narrow.ErrFuel, narrow.ErrKind, narrow.ErrNever, narrow.ErrCast} {
		if count[e] < 100 {
			t.Errorf("only %d runs ended by %d", count[e], e)
		}
	}
}

// TestShort: every text of up to three bytes of the alphabet.
func TestShort(t *testing.T) {
	texts := []string{""}
	for length := 0; length <= 3; length++ {
		longer := []string{}
		for _, text := range texts {
			compare(t, text, "1", 2)
			for i := range alphabet {
				longer = append(longer, text+alphabet[i:i+1])
			}
		}
		texts = longer
	}
}

// TestEachByte: every byte at every place of a source.
func TestEachByte(t *testing.T) {
	source := "[|!a:A&bf{a=1;b=+ac;(c{>;}{d=.e;<;})f~t;!;^a;}]b=<cd;c=?;c=Ba;"
	for at := range source {
		for b := 0; b < 256; b++ {
			compare(t, source[:at]+string([]byte{byte(b)})+source[at+1:], "", 9)
			compare(t, source[:at]+string([]byte{byte(b)})+source[at:], "", 9)
		}
		compare(t, source[:at]+source[at+1:], "", 9)
	}
}

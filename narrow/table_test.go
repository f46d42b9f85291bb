package narrow_test

import (
	"fmt"
	"strings"
	"testing"

	"narrow/narrow"
)

// This file works out tables in a second way: what a node does with kinds is found out by trying it,
// in the second interpreter, at values of each kind.

const kindsInOrder = "ntfzABC"

// samples are values of each kind, by which every way and every answer of a node can be found.
var samples = map[rune][]string{'n': {"0", "1"}, 't': {"T"}, 'f': {"F"}, 'z': {"Z"}, 'A': {"A0", "A1"}, 'B': {"BT", "BF", "BZ"}, 'C': {"C"}}

// sets are the signs of the kinds that each variable can have; the empty sets stand for no state.
type sets [6]string

func valuesOf(kinds string) []string {
	values := []string{}
	for _, k := range kinds {
		values = append(values, samples[k]...)
	}
	return values
}

// inOrder are the kinds that were found, each once and in their order.
func inOrder(found string) string {
	kinds := ""
	for _, k := range kindsInOrder {
		if strings.ContainsRune(found, k) {
			kinds += string(k)
		}
	}
	return kinds
}

func isTest(node string) bool { return testForm.FindString(node) == node }

// isAssignment tells nodes that set a variable from others.
func isAssignment(node string) bool { return len(node) > 2 && node[1] == '=' }

// trial is what came of one try of a node: the values that it read, what it gave, and how it ended.
type trial struct {
	y, w, x string
	e       narrow.Errno
}

// tried tries an assignment at all values that the variables it reads can have.
// They are tried as if they were two, even if the node names one of them twice.
func tried(node string, ahead sets) []trial {
	text, read := "a=", []byte{}
	for _, sign := range []byte(node[2:]) {
		if sign >= 'a' && sign <= 'f' {
			read = append(read, sign)
			sign = "bc"[len(read)-1]
		}
		text += string(rune(sign))
	}
	ys, ws, inputs := []string{"Z"}, []string{"Z"}, []string{""}
	if text == "a=?" {
		inputs = strings.Split("0 T F Z A B C", " ")
	}
	if len(read) > 0 {
		ys = valuesOf(ahead[read[0]-'a'])
	}
	if len(read) > 1 {
		ws = valuesOf(ahead[read[1]-'a'])
	}
	trials := []trial{}
	for _, y := range ys {
		for _, w := range ws {
			for _, input := range inputs {
				last := trial{y: y, w: w}
				_, _, last.e = runs(input, 0, func(m *machine) {
					m.values[1], m.values[2] = y, w
					m.act(text)
					last.x = m.values[0]
				})
				trials = append(trials, last)
			}
		}
	}
	return trials
}

// behindAssignment is the state behind an assignment, if one comes.
func behindAssignment(node string, ahead sets) (sets, bool) {
	y, w, x := "", "", ""
	for _, one := range tried(node, ahead) {
		if one.e == narrow.OK {
			y, w, x = y+kindOf(one.y), w+kindOf(one.w), x+kindOf(one.x)
		}
	}
	behind, kept := ahead, []string{y, w}
	for _, sign := range []byte(node[2:]) {
		if sign >= 'a' && sign <= 'f' {
			behind[sign-'a'] = inOrder(kept[0])
			kept = kept[1:]
		}
	}
	behind[node[0]-'a'] = inOrder(x)
	return behind, x != ""
}

// behindNode is the state along the way of a node that holds or does not, if one comes.
func behindNode(node string, ahead sets, holds bool) (sets, bool) {
	switch {
	case node == "!":
		return ahead, false
	case node == "*" || node[0] == '^':
		return ahead, true
	case isAssignment(node):
		return behindAssignment(node, ahead)
	}
	found, variable := "", node[0]-'a'
	for _, value := range valuesOf(ahead[variable]) {
		_, _, e := runs("", 0, func(m *machine) {
			m.values[variable] = value
			if !isTest(node) {
				m.act(node)
			} else if m.holds(node) != holds {
				panic(narrow.ErrNever)
			}
		})
		if e == narrow.OK {
			found += kindOf(value)
		}
	}
	ahead[variable] = inOrder(found)
	return ahead, found != ""
}

// faultSecond tells whether a node of a line with this state can meet what it does not take.
func faultSecond(node string, ahead sets) narrow.Errno {
	if node == "!" {
		return narrow.ErrNever
	}
	if isAssignment(node) {
		for _, one := range tried(node, ahead) {
			if one.e == narrow.ErrKind {
				return narrow.ErrKind
			}
		}
	}
	return narrow.OK
}

func linesOf(graph string) []string {
	lines := strings.SplitAfter(graph, ";")
	return lines[:len(lines)-1]
}

// tableSecond is the least table of a graph without errors. The lines that still have to be looked at stand in a row.
func tableSecond(graph string) []sets {
	lines := linesOf(graph)
	table := make([]sets, len(lines))
	row := []int{}
	come := func(line int, state sets) {
		if line == len(lines) {
			return
		}
		old := table[line]
		for v := range state {
			table[line][v] = inOrder(old[v] + state[v])
		}
		if table[line] != old {
			row = append(row, line)
		}
	}
	come(0, sets{"z", "z", "z", "z", "z", "z"})
	for ; len(row) > 0; row = row[1:] {
		node, yes, no := lineParts(lines[row[0]])
		ahead := table[row[0]]
		if state, comes := behindNode(node, ahead, true); comes {
			come(yes, state)
		}
		if state, comes := behindNode(node, ahead, false); isTest(node) && comes {
			come(no, state)
		}
	}
	return table
}

func flowSecond(table []sets) string {
	text := ""
	for _, state := range table {
		if state == (sets{}) {
			text += "?;"
			continue
		}
		text += strings.Join(state[:], ".") + ".;"
	}
	return text
}

func acceptSecond(graph string, table []sets) (narrow.Errno, int) {
	for i, line := range linesOf(graph) {
		node, _, _ := lineParts(line)
		if e := faultSecond(node, table[i]); e != narrow.OK && table[i] != (sets{}) {
			return e, i
		}
	}
	return narrow.OK, 0
}

func pruneSecond(graph string, table []sets) string {
	numbers, count := []int{}, 0
	for _, state := range table {
		numbers = append(numbers, count)
		if state != (sets{}) {
			count++
		}
	}
	numbers = append(numbers, count)
	text := ""
	for i, line := range linesOf(graph) {
		node, yes, no := lineParts(line)
		_, goesYes := behindNode(node, table[i], true)
		_, goesNo := behindNode(node, table[i], false)
		switch {
		case table[i] == (sets{}):
		case node == "!":
			text += "!;"
		case !isTest(node) && !goesYes:
			text += fmt.Sprintf("%s,%02d;", node, count)
		case !isTest(node):
			text += fmt.Sprintf("%s,%02d;", node, numbers[yes])
		case goesYes && goesNo:
			text += fmt.Sprintf("%s,%02d,%02d;", node, numbers[yes], numbers[no])
		case goesYes:
			text += fmt.Sprintf("*,%02d;", numbers[yes])
		default:
			text += fmt.Sprintf("*,%02d;", numbers[no])
		}
	}
	return text
}

// graphFault is what is wrong with a text of up to 900 bytes as a graph, and where, by the grammar and a look at its ways.
func graphFault(text string) (narrow.Errno, int) {
	place := wrongPlace(graphs, text)
	lines := strings.SplitAfterN(text, ";", 91)
	if len(lines) > 90 && lines[90] != "" {
		if begin := len(text) - len(lines[90]); place < 0 || place > begin {
			place = begin
		}
	}
	if place >= 0 {
		return narrow.ErrForm, place
	}
	for i, line := range linesOf(text) {
		if _, yes, no := lineParts(line); max(yes, no) > len(linesOf(text)) {
			return narrow.ErrLink, i
		}
	}
	return narrow.OK, 0
}

// compareKinds compares Flow, Accept and Prune of a text of up to 900 bytes with the second way.
func compareKinds(t *testing.T, graph string) narrow.Errno {
	t.Helper()
	wantE, wantAt := graphFault(graph)
	if wantE != narrow.OK {
		checkKinds(t, graph, "", wantE, wantE, wantAt, "")
		return wantE
	}
	table := tableSecond(graph)
	fault, at := acceptSecond(graph, table)
	checkKinds(t, graph, flowSecond(table), narrow.OK, fault, at, pruneSecond(graph, table))
	return fault
}

// checkKinds checks Flow, Accept and Prune of a graph, and ends the test at the first graph with a wrong answer.
func checkKinds(t *testing.T, graph, table string, e, fault narrow.Errno, at int, pruned string) {
	t.Helper()
	checkFlow(t, graph, table, e)
	checkAccept(t, graph, fault, at)
	checkPrune(t, graph, pruned, e)
	if t.Failed() {
		t.FailNow()
	}
}

// lively is a graph that begins with lines by which variables can be of every kind, so that states come further.
func (d *dice) lively(lines int) string {
	text := "a=?,01;b=?,02;c=?,03;"
	for i := 3; i < lines+3; i++ {
		line := d.line(lines + 3)
		node, _, no := lineParts(line)
		if !isTest(node) && node != "!" && d.below(3) > 0 {
			line = fmt.Sprintf("%s,%02d;", node, i+1)
		}
		if isTest(node) && d.below(3) > 0 {
			line = fmt.Sprintf("%s,%02d,%02d;", node, i+1, no)
		}
		text += line
	}
	return text
}

// someGraph is a graph without an order, a lively one, or one of a source.
func (d *dice) someGraph() string {
	switch d.below(3) {
	case 0:
		return d.graph(d.below(24))
	case 1:
		return d.lively(d.below(24))
	}
	graph, _, _ := narrow.Graph(d.statements(4, false))
	return graph
}

// TestKindsSecondWay: graphs of each sort, and such with a fault of their form or their ways.
func TestKindsSecondWay(t *testing.T) {
	d := dice{6}
	count := map[narrow.Errno]int{}
	for i := 0; i < 10000; i++ {
		graph := d.someGraph()
		switch d.below(16) {
		case 0:
			graph = d.damaged(graph)
		case 1:
			graph += d.line(30)
		}
		count[compareKinds(t, graph)]++
	}
	for _, e := range []narrow.Errno{narrow.OK, narrow.ErrForm, narrow.ErrLink, narrow.ErrKind, narrow.ErrNever} {
		if count[e] < 100 {
			t.Errorf("only %d graphs with the answer %d", count[e], e)
		}
	}
}

// TestKindsOfEachByte: every byte at every place of a graph, and the graph cut off there.
func TestKindsOfEachByte(t *testing.T) {
	graph := "a=?,01;a:n,02,04;*,03;b=+aa,06;!;f~t,00;c=.d,09;e,02,09;^f,09;"
	for at := range graph {
		compareKinds(t, graph[:at])
		compareKinds(t, graph[at:])
		for b := 0; b < 256; b++ {
			compareKinds(t, graph[:at]+string([]byte{byte(b)})+graph[at+1:])
			compareKinds(t, graph[:at]+string([]byte{byte(b)})+graph[at:])
		}
	}
}

// TestKindsOfManyLines: graphs of up to one line more than there may be.
func TestKindsOfManyLines(t *testing.T) {
	d := dice{7}
	for i := 0; i < 300; i++ {
		graph := d.graph(80 + d.below(12))
		if i%3 == 0 {
			graph = d.damaged(graph)
		}
		if len(graph) <= 900 {
			compareKinds(t, graph)
		}
	}
}

// TestWalksWithin: what a walk tells lies within what Flow tells, Accept foresees how a walk can end,
// and the pruned graph walks through the same nodes.
func TestWalksWithin(t *testing.T) {
	d := dice{8}
	count := map[narrow.Errno]int{}
	for i := 0; i < 8000; i++ {
		graph := d.someGraph()
		input, fuel := d.text("00123456789TTFFZZAABBCCx ", d.below(12)), d.below(60)
		count[checkWithin(t, graph, input, fuel)]++
	}
	for _, e := range []narrow.Errno{narrow.OK, narrow.ErrFuel, narrow.ErrKind, narrow.ErrNever, narrow.ErrCast} {
		if count[e] < 100 {
			t.Errorf("only %d walks ended by %d", count[e], e)
		}
	}
}

func checkWithin(t *testing.T, graph, input string, fuel int) narrow.Errno {
	t.Helper()
	told, out, e := narrow.Walk(graph, input, fuel)
	table, _ := narrow.Flow(graph)
	fault, at := narrow.Accept(graph)
	pruned, _ := narrow.Prune(graph)
	lines, numbers, count := strings.Split(table, ";"), map[string]string{}, 0
	for i, line := range lines {
		numbers[fmt.Sprintf("%02d", i)] = fmt.Sprintf("%02d", count)
		if line != "?" {
			count++
		}
	}
	wantTold, last := "", 0
	for _, step := range strings.Fields(told) {
		fmt.Sscanf(step[:2], "%d", &last)
		kinds := strings.Split(lines[last], ".")
		for v := 0; v < 6; v++ {
			if len(kinds) != 7 || !strings.Contains(kinds[v], step[2+v:3+v]) {
				t.Fatalf("P11: %q, %q: %q is not within %q", graph, input, step, lines[last])
			}
		}
		wantTold += numbers[step[:2]] + step[2:] + " "
	}
	if (e == narrow.ErrKind || e == narrow.ErrNever) && (fault == narrow.OK || at > last || at == last && fault != e) {
		t.Fatalf("P13: %q, %q ends by %d at %d, Accept answers %d, %d", graph, input, e, last, fault, at)
	}
	if prunedTold, prunedOut, prunedE := narrow.Walk(pruned, input, fuel); prunedTold != wantTold || prunedOut != out || prunedE != e {
		t.Fatalf("P14: Walk(%q, %q, %d) = %q, %q, %d, pruned from %q: want %q, %q, %d", pruned, input, fuel, prunedTold, prunedOut, prunedE, graph, wantTold, out, e)
	}
	return e
}

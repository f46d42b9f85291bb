package narrow

// flow works out the least table of a graph: for each line the state ahead of its node.
type flow struct {
	table []state
	grown bool // since the last look at all lines
}

// leastTable is the least table that obeys the graph of these nodes.
// It begins with what each obeying table has, and lets it grow by what comes along the ways,
// till nothing more does; sets that only grow do so no more than a set number of times.
func leastTable(nodes []node) []state {
	f := flow{table: make([]state, len(nodes))}
	first := firstState()
	f.come(0, first)
	for f.grown {
		f.grown = false
		for i, n := range nodes {
			f.pass(i, n)
		}
	}
	return f.table
}

// pass lets the state ahead of a node come along its ways.
func (f *flow) pass(line int, n node) {
	ahead := stateOf(f.table, line)
	if !ahead.exists() {
		return
	}
	yes := stateAlong(n, ahead, true)
	no := stateAlong(n, ahead, false)
	f.come(n.yes, yes)
	f.come(n.no, no)
}

// come lets a line's state grow by one that comes to it; at the end there is nothing to grow.
func (f *flow) come(line int, s state) {
	if line < 0 || line >= len(f.table) {
		return
	}
	old := f.table[line]
	now := joined(old, s)
	if now != old {
		f.table[line] = now
		f.grown = true
	}
}

// stateOf is what a table has for a line.
func stateOf(table []state, line int) state {
	if line < 0 || line >= len(table) {
		return state{}
	}
	return table[line]
}

func tableText(table []state) string {
	text := ""
	for _, s := range table {
		line := stateText(s)
		text += line + ";"
	}
	return text
}

// firstFault is why, and at which line, the first node can meet what it does not take.
func firstFault(nodes []node, table []state) (Errno, int) {
	for i, n := range nodes {
		ahead := stateOf(table, i)
		e := faultOf(n, ahead)
		if e != OK {
			return e, i
		}
	}
	return OK, 0
}

// faultOf is why a node cannot take all that the state ahead of it has.
func faultOf(n node, ahead state) Errno {
	if !ahead.exists() {
		return OK
	}
	if n.act == actNever {
		return ErrNever
	}
	y := ahead.kindsOf(n.y)
	w := ahead.kindsOf(n.w)
	taken := takenKinds(n.act)
	if (y|w)&^taken != 0 {
		return ErrKind
	}
	return OK
}

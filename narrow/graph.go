package narrow

// nodesOfGraph are the nodes of a graph with their ways.
func nodesOfGraph(graph string) ([]node, Errno) {
	if len(graph) > maxGraph {
		return nil, ErrLong
	}
	r := reader{text: graph}
	nodes := []node{}
	for r.at < len(graph) {
		if len(nodes) >= maxNodes {
			return nil, ErrForm
		}
		n := r.line()
		if r.bad {
			return nil, ErrForm
		}
		nodes = append(nodes, n)
	}
	if !linked(nodes) {
		return nil, ErrLink
	}
	return nodes, OK
}

// line reads a line of a graph.
func (r *reader) line() node {
	place := r.at
	n := r.graphNode()
	n.text = r.since(place)
	if n.act != actNever {
		n.yes = r.way()
		n.no = n.yes
	}
	if isTest(n.act) {
		n.no = r.way()
	}
	r.expect(";")
	return n
}

// graphNode reads the node of a line.
func (r *reader) graphNode() node {
	switch r.peek() {
	case '*':
		r.at++
		return node{act: actIdle}
	case '^', '!':
		return r.action()
	}
	// A variable begins a test too: only the byte behind it tells.
	x := r.variable()
	switch r.peek() {
	case '=', '~':
		return r.change(x)
	}
	return r.question(x)
}

func (r *reader) way() int {
	r.expect(",")
	tens := r.digit()
	ones := r.digit()
	return 10*tens + ones
}

func (r *reader) digit() int {
	sign := r.peek()
	if sign < '0' || sign > '9' {
		r.bad = true
		return 0
	}
	r.at++
	return int(sign - '0')
}

// linked tells whether all ways lead to a line or to the end.
func linked(nodes []node) bool {
	for _, n := range nodes {
		if n.yes > len(nodes) || n.no > len(nodes) {
			return false
		}
	}
	return true
}

// graphText writes nodes as a graph.
func graphText(nodes []node) string {
	text := ""
	for _, n := range nodes {
		line := lineText(n)
		text += line
	}
	return text
}

func lineText(n node) string {
	text := n.text
	if n.act != actNever {
		text += "," + twoDigits(n.yes)
	}
	if isTest(n.act) {
		text += "," + twoDigits(n.no)
	}
	return text + ";"
}

package narrow

// nodesOfGraph are the nodes of a graph with their ways. Of a text that is no graph there is
// the place where it goes wrong, of one with a way to nowhere the number of the first such line.
func nodesOfGraph(graph string) ([]node, Errno, int) {
	if len(graph) > maxGraph {
		return nil, ErrLong, 0
	}
	r := reader{text: graph}
	nodes := []node{}
	for r.at < len(graph) {
		if len(nodes) >= maxNodes {
			return nil, ErrForm, r.at
		}
		n := r.line()
		if r.bad {
			return nil, ErrForm, r.at
		}
		nodes = append(nodes, n)
	}
	wrong := firstUnlinked(nodes)
	if wrong < len(nodes) {
		return nil, ErrLink, wrong
	}
	return nodes, OK, 0
}

// line reads a line of a graph.
func (r *reader) line() node {
	place := r.at
	n := r.graphNode()
	n.text = r.since(place)
	if n.act != actNever {
		n.yes = r.way()
		n.no = n.yes
	}
	if isTest(n.act) {
		n.no = r.way()
	}
	r.expect(";")
	return n
}

// graphNode reads the node of a line.
func (r *reader) graphNode() node {
	switch r.peek() {
	case '*':
		r.at++
		return node{act: actIdle}
	case '^', '!':
		return r.action()
	}
	// A variable begins a test too: only the byte behind it tells.
	x := r.variable()
	switch r.peek() {
	case '=', '~':
		return r.change(x)
	}
	return r.question(x)
}

func (r *reader) way() int {
	r.expect(",")
	tens := r.digit()
	ones := r.digit()
	return 10*tens + ones
}

func (r *reader) digit() int {
	sign := r.peek()
	if sign < '0' || sign > '9' {
		r.bad = true
		return 0
	}
	r.at++
	return int(sign - '0')
}

// firstUnlinked is the number of the first node with a way that leads neither to a line nor to the end,
// or how many nodes there are, if none has one.
func firstUnlinked(nodes []node) int {
	for i, n := range nodes {
		if n.yes > len(nodes) || n.no > len(nodes) {
			return i
		}
	}
	return len(nodes)
}

// graphText writes nodes as a graph.
func graphText(nodes []node) string {
	text := ""
	for _, n := range nodes {
		line := lineText(n)
		text += line
	}
	return text
}

func lineText(n node) string {
	text := n.text
	if n.act != actNever {
		text += "," + twoDigits(n.yes)
	}
	if isTest(n.act) {
		text += "," + twoDigits(n.no)
	}
	return text + ";"
}

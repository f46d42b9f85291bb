// Package narrow: which kinds of values variables can have, along every way through a program: see DOC.md.
package narrow

// Errno is what a call answers: OK, the reason for a refusal, or why a run ended early.
type Errno int

const (
	OK       Errno = 0
	ErrLong  Errno = 1 // a text above its bound, or a number beyond it
	ErrForm  Errno = 2 // no source, or no graph
	ErrLink  Errno = 3 // a way to what there is not
	ErrFuel  Errno = 4 // the steps are spent
	ErrKind  Errno = 5 // a value of a kind that is not taken
	ErrNever Errno = 6 // a place that was never to be come to
	ErrCast  Errno = 7 // a value of another kind than was asked for
)

const (
	maxSource = 180 // bytes
	maxGraph  = 900 // bytes
	maxNodes  = 90  // of a graph
	maxInput  = 40  // bytes
	maxFuel   = 300 // steps
)

// Run runs a source (P3 to P6).
func Run(source string, input string, fuel int) (string, string, Errno) {
	if !withinBounds(input, fuel) {
		return "", "", ErrLong
	}
	nodes, e, _ := nodesOfSource(source)
	if e != OK {
		return "", "", e
	}
	return walk(nodes, input, fuel)
}

// withinBounds tells whether a run can be given this input and this fuel.
func withinBounds(input string, fuel int) bool {
	return len(input) <= maxInput && fuel >= 0 && fuel <= maxFuel
}

// Graph turns a source into a graph (P7, P8).
func Graph(source string) (string, Errno, int) {
	nodes, e, place := nodesOfSource(source)
	if e != OK {
		return "", e, place
	}
	return graphText(nodes), OK, 0
}

// Walk runs a graph (P9, P10).
func Walk(graph string, input string, fuel int) (string, string, Errno) {
	if !withinBounds(input, fuel) {
		return "", "", ErrLong
	}
	nodes, e, _ := nodesOfGraph(graph)
	if e != OK {
		return "", "", e
	}
	return walk(nodes, input, fuel)
}

// Flow writes which kinds each variable can have ahead of each node (P11, P12).
func Flow(graph string) (string, Errno) {
	nodes, e, _ := nodesOfGraph(graph)
	if e != OK {
		return "", e
	}
	table := leastTable(nodes)
	return tableText(table), OK
}

// Accept tells whether a graph can meet a value of a wrong kind (P13).
func Accept(graph string) (Errno, int) {
	nodes, e, place := nodesOfGraph(graph)
	if e != OK {
		return e, place
	}
	table := leastTable(nodes)
	return firstFault(nodes, table)
}

// Prune leaves out of a graph what cannot be come to (P14).
func Prune(graph string) (string, Errno) {
	nodes, e, _ := nodesOfGraph(graph)
	if e != OK {
		return "", e
	}
	table := leastTable(nodes)
	kept := prunedNodes(nodes, table)
	return graphText(kept), OK
}

package narrow

// prunedNodes are the nodes that have a state, less the ways along which none comes.
func prunedNodes(nodes []node, table []state) []node {
	kept := []node{}
	for i, n := range nodes {
		ahead := stateOf(table, i)
		if !ahead.exists() {
			continue
		}
		n = withLiveWays(n, ahead, len(nodes))
		n.yes = statesAhead(table, n.yes)
		n.no = statesAhead(table, n.no)
		kept = append(kept, n)
	}
	return kept
}

// withLiveWays is a node less the ways along which no state comes from the one ahead of it.
func withLiveWays(n node, ahead state, end int) node {
	yes := stateAlong(n, ahead, true)
	no := stateAlong(n, ahead, false)
	goesYes := yes.exists()
	goesNo := no.exists()
	switch {
	case goesYes && goesNo:
		return n
	case goesYes:
		return idleNode(n.yes)
	case goesNo:
		return idleNode(n.no)
	}
	// Each kind goes one way of a test at least, so this node is none.
	n.yes = end
	n.no = end
	return n
}

func idleNode(way int) node {
	return node{text: "*", act: actIdle, yes: way, no: way}
}

// statesAhead is how many lines ahead of one have a state: its number, if only those are left.
func statesAhead(table []state, line int) int {
	count := 0
	for i, s := range table {
		if i < line && s.exists() {
			count++
		}
	}
	return count
}

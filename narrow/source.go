package narrow

// noMark stands for the marks of a loop where there is none.
const noMark = -1

// maker turns a source into nodes. It lays nodes and jumps in a row, as they stand in the text.
// Their ways lead to marks, since where a way leads is often read later than the node;
// a mark is laid at a place of the row as soon as that is known.
type maker struct {
	read  reader
	row   []node
	marks []int
}

// nodesOfSource are the nodes of a source with their ways.
// Of a text that is no source there is the place where it goes wrong.
func nodesOfSource(source string) ([]node, Errno, int) {
	if len(source) > maxSource {
		return nil, ErrLong, 0
	}
	m := maker{read: reader{text: source}}
	m.statements(noMark, noMark)
	if m.read.bad || m.read.at != len(source) {
		return nil, ErrForm, m.read.at
	}
	return m.nodes(), OK, 0
}

func (m *maker) newMark() int {
	m.marks = append(m.marks, 0)
	return len(m.marks) - 1
}

// layMark lets a mark stand for what comes next in the row.
func (m *maker) layMark(mark int) {
	if mark >= 0 && mark < len(m.marks) {
		m.marks[mark] = len(m.row)
	}
}

func (m *maker) jump(mark int) {
	m.row = append(m.row, node{act: actJump, yes: mark, no: mark})
}

// statements reads statements up to a byte with which none begins.
// head and behind are the marks of the innermost loop around them.
func (m *maker) statements(head int, behind int) {
	for !m.read.bad {
		switch m.read.peek() {
		case '(':
			m.choice(head, behind)
		case '[':
			m.loop()
		case '>':
			m.leap(">;", behind)
		case '<':
			m.leap("<;", head)
		case '}', 0:
			return
		default:
			m.action()
		}
	}
}

func (m *maker) action() {
	place := m.read.at
	n := m.read.action()
	n.text = m.read.since(place)
	m.read.expect(";")
	behind := m.newMark()
	n.yes = behind
	n.no = behind
	m.row = append(m.row, n)
	m.layMark(behind)
}

// leap reads a statement that leaves a loop or goes on with it.
func (m *maker) leap(statement string, mark int) {
	if mark == noMark {
		m.read.bad = true
		return
	}
	m.read.expect(statement)
	m.jump(mark)
}

func (m *maker) choice(head int, behind int) {
	yes := m.newMark()
	no := m.newMark()
	end := m.newMark()
	m.read.expect("(")
	m.condition(yes, no)
	m.read.expect("{")
	m.layMark(yes)
	m.statements(head, behind)
	m.read.expect("}{")
	m.jump(end)
	m.layMark(no)
	m.statements(head, behind)
	m.read.expect("})")
	m.layMark(end)
}

func (m *maker) loop() {
	head := m.newMark()
	body := m.newMark()
	behind := m.newMark()
	m.read.expect("[")
	m.layMark(head)
	m.condition(body, behind)
	m.read.expect("{")
	m.layMark(body)
	m.statements(head, behind)
	m.read.expect("}]")
	m.jump(head)
	m.layMark(behind)
}

// condition reads a condition: a run goes on at yes, if it holds, else at no.
func (m *maker) condition(yes int, no int) {
	switch m.read.peek() {
	case '!':
		m.read.expect("!")
		m.condition(no, yes)
	case '&':
		m.read.expect("&")
		second := m.newMark()
		m.condition(second, no)
		m.layMark(second)
		m.condition(yes, no)
	case '|':
		m.read.expect("|")
		second := m.newMark()
		m.condition(yes, second)
		m.layMark(second)
		m.condition(yes, no)
	default:
		place := m.read.at
		n := m.read.test()
		n.text = m.read.since(place)
		n.yes = yes
		n.no = no
		m.row = append(m.row, n)
	}
}

// nodes are the nodes of the row, their ways leading to nodes' numbers.
func (m *maker) nodes() []node {
	nodes := []node{}
	for _, n := range m.row {
		if n.act == actJump {
			continue
		}
		n.yes = m.nodeBehind(n.yes)
		n.no = m.nodeBehind(n.no)
		nodes = append(nodes, n)
	}
	return nodes
}

// nodeBehind is the number of the node that begins next behind a mark.
// Jumps never lead in a ring, since each loop has a test; the hops are counted
// so that the end of this search does not rest on that.
func (m *maker) nodeBehind(mark int) int {
	place := m.placeOf(mark)
	for hops := 0; hops < len(m.row); hops++ {
		if place < 0 || place >= len(m.row) {
			break
		}
		n := m.row[place]
		if n.act != actJump {
			break
		}
		place = m.placeOf(n.yes)
	}
	return m.nodesAhead(place)
}

func (m *maker) placeOf(mark int) int {
	if mark < 0 || mark >= len(m.marks) {
		return len(m.row)
	}
	return m.marks[mark]
}

// nodesAhead is how many nodes stand ahead of a place of the row.
func (m *maker) nodesAhead(place int) int {
	count := 0
	for i, n := range m.row {
		if i < place && n.act != actJump {
			count++
		}
	}
	return count
}

package run

import (
	"comb/api"
	"comb/pack"
)

// maker makes a node of each step (M2).
type maker struct {
	pack   *pack.Pack
	row    []int
	passed int   // how many words
	pile   []int // numbers of nodes
	nodes  []api.Node
}

// nodesOf makes the nodes of steps that a worker made.
func nodesOf(steps []int16, p *pack.Pack, row []int) []api.Node {
	m := maker{pack: p, row: row, nodes: make([]api.Node, 0, len(steps))}
	for _, step := range steps {
		node := m.node(int(step))
		m.pile = append(m.pile, len(m.nodes))
		m.nodes = append(m.nodes, node)
	}
	return m.nodes
}

func (m *maker) node(step int) api.Node {
	if step == shift {
		m.passed++
		return api.Node{Symbol: m.row[m.passed-1], Prod: -1, From: m.passed - 1, Words: 1}
	}
	left, size := m.pack.Prod(step)
	node := api.Node{Symbol: left, Prod: step, From: m.passed}
	if size > 0 {
		node.Kids = m.takeOff(size)
		node.From = m.nodes[node.Kids[0]].From
	}
	// The nodes on the pile have all words that were passed, each as many as lie between it and the next one.
	node.Words = m.passed - node.From
	return node
}

// takeOff takes the uppermost nodes off the pile. They are laid behind a piece of the pile that has no room, and so into memory of their own: what comes on the pile later cannot be written over them.
func (m *maker) takeOff(count int) []int {
	rest := len(m.pile) - count
	taken := append(m.pile[rest:rest:rest], m.pile[rest:]...)
	m.pile = m.pile[:rest]
	return taken
}

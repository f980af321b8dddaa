package run

import (
	"guardrail/api"
	"guardrail/nodes"
)

// block: each time that it runs its names are new.
func (m *machine) block(i int, around *scope) {
	own := newScope(around)
	for _, k := range m.Nodes[i].List {
		m.spend()
		m.statement(k, own)
	}
}

func (m *machine) statement(i int, around *scope) {
	switch n := m.Nodes[i]; n.Kind {
	case api.NodeLet:
		around.own[i] = m.value(n.A, around)
	case api.NodeSet:
		around.set(m.Names[i], m.value(n.A, around))
	case api.NodePut:
		m.put(i, around)
	case api.NodeLay:
		m.lay(i, around)
	case api.NodePrint:
		line := m.value(n.A, around).shown() // ahead of lines, as it may print some itself
		m.lines = append(m.lines, line)
	case api.NodeIf:
		m.choice(n, around)
	case api.NodeWhile:
		for m.value(n.A, around).counts() {
			m.block(n.B, around)
		}
	case api.NodeReturn:
		panic(returned{m.value(n.A, around)})
	default:
		m.value(n.A, around)
	}
}

func (m *machine) choice(n api.Node, around *scope) {
	if m.value(n.A, around).counts() {
		m.block(n.B, around)
	} else if n.C != nodes.None {
		m.block(n.C, around)
	}
}

// put a part of an object.
func (m *machine) put(i int, around *scope) {
	n := m.Nodes[i]
	to := m.value(n.A, around)
	v := m.value(n.B, around)
	need(i, to, api.TagObject)
	to.thing.parts[n.Text] = v
}

// lay something at a place of an array, or just behind all.
func (m *machine) lay(i int, around *scope) {
	n := m.Nodes[i]
	to := m.value(n.A, around)
	at := m.value(n.B, around)
	v := m.value(n.C, around)
	array, place := arrayPlace(i, to, at)
	switch {
	case array.has(place):
		array.list[place] = v
	case place == len(array.list):
		m.made(i)
		array.list = append(array.list, v)
	default:
		stop(api.EndWrong, i)
	}
}

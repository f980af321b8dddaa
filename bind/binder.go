package bind

import (
	"guardrail/api"
	"guardrail/giveup"
	"guardrail/nodes"
	"guardrail/tree"
)

// binder goes through a program as it stands in the text, so that the first fault that it comes to is the first one there.
type binder struct {
	nodes  []api.Node
	around []map[string]int // the lets and params of each block around, by their names; the innermost block is the last
	to     []int            // by nodes: the let or param that a name is, or None
}

func read(s string) (*binder, api.Fault) {
	program, fault := tree.Parse(s)
	if fault.Err != api.OK {
		return nil, fault
	}
	b := &binder{nodes: program.Nodes}
	for range program.Nodes {
		b.to = append(b.to, nodes.None)
	}
	return b, giveup.Fault(func() { b.all(program.Main) })
}

// inBlock does something where a block of its own is around it.
func (b *binder) inBlock(do func()) {
	b.around = append(b.around, map[string]int{})
	do()
	b.around = b.around[:len(b.around)-1]
}

// own has the names of the innermost block.
func (b *binder) own() map[string]int { return b.around[len(b.around)-1] }

// all goes through these parts, one behind the other.
func (b *binder) all(parts ...int) {
	for _, i := range parts {
		b.node(i)
	}
}

func (b *binder) node(i int) {
	n := b.nodes[i]
	switch n.Kind {
	case api.NodeVar, api.NodeSet:
		b.to[i] = b.find(n)
	case api.NodeLet:
		b.let(i, n)
		return
	case api.NodeParam:
		b.own()[n.Text] = i
	case api.NodeFunc:
		b.function(n)
		return
	case api.NodeBlock:
		b.inBlock(func() { b.all(n.List...) })
		return
	}
	b.all(nodes.Parts(n)...)
}

// find the let or param that a name is, from the innermost block on.
func (b *binder) find(n api.Node) int {
	for k := len(b.around) - 1; k >= 0; k-- {
		if to, ok := b.around[k][n.Text]; ok {
			return to
		}
	}
	giveup.At(api.ErrNone, n.At)
	return nodes.None
}

// let makes a name known behind its E; a function knows its own.
func (b *binder) let(i int, n api.Node) {
	if _, ok := b.own()[n.Text]; ok {
		giveup.At(api.ErrTwice, n.At)
	}
	if b.nodes[n.A].Kind == api.NodeFunc {
		b.own()[n.Text] = i
	}
	b.all(n.A)
	b.own()[n.Text] = i
}

// function takes its params for names of its block: no let of that block may have one of these, so that nothing else can be told apart.
func (b *binder) function(n api.Node) {
	b.inBlock(func() {
		b.all(n.List...)
		b.all(b.nodes[n.A].List...)
	})
}

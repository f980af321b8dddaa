// Package checked: a program that was checked, with its names and types by their numbers: what the layers from check on have in common.
// Types as texts would not do for them: what an expression has may be deeper, or longer, than a text of a type may be.
package checked

import (
	"guardrail/api"
	"guardrail/bind"
	"guardrail/giveup"
	"guardrail/nodes"
	"guardrail/shape"
	"guardrail/tree"
)

// Program that was checked. Its list has the types that are written, by their own numbers, and behind them those that were made.
type Program struct {
	api.Program
	*shape.List
	Names     map[int]int          // by the node of a name: its let or param
	Functions []int                // by nodes: the innermost function around, or None
	Of        []int                // by nodes: the type that an expression has, or None
	plain     [api.TypeAny + 1]int // by kinds: the types that have no parts, but unknown, which nothing has of itself
}

// Read a program, and check it.
func Read(s string) (*Program, api.Fault) {
	names, fault := bind.Names(s)
	if fault.Err != api.OK {
		return nil, fault
	}
	program, _ := tree.Parse(s) // no fault: it has names
	p := &Program{Program: program, List: shape.New(), Names: map[int]int{}}
	for _, b := range names {
		p.Names[b.Node] = b.To
	}
	p.Functions = nodes.Functions(p.Nodes)
	p.Add(p.Types...)
	for kind := api.TypeNum; kind <= api.TypeAny; kind++ {
		p.plain[kind] = p.Put(api.Type{Kind: kind})
	}
	return p, giveup.Fault(p.check)
}

// check the nodes by their numbers, so that the first fault that it comes to is the first one.
func (p *Program) check() {
	p.functions()
	for i, n := range p.Nodes {
		if !nodes.IsExpression(n) {
			p.statement(i)
			continue
		}
		p.Of[i] = p.expression(i)
		if p.Size(p.Of[i]) > api.MaxTypes {
			giveup.At(api.ErrMany, n.At)
		}
	}
}

// functions get their types ahead of all, as those within a function may name it; what is written is all that they hang on.
func (p *Program) functions() {
	for _, n := range p.Nodes {
		of := nodes.None
		if n.Kind == api.NodeFunc {
			of = p.function(n)
		}
		p.Of = append(p.Of, of)
	}
}

// wrong gives up at a node that is not of its type.
func (p *Program) wrong(i int) { giveup.At(api.ErrType, p.Nodes[i].At) }

// fit gives up at a node whose part does not fit what is asked for.
func (p *Program) fit(i, part, asked int) {
	if !p.Fits(p.Of[part], asked) {
		p.wrong(i)
	}
}

// has answers the type of a let or a param.
func (p *Program) has(i int) int {
	switch n := p.Nodes[i]; {
	case n.Type != nodes.None:
		return n.Type
	case n.Kind == api.NodeLet:
		return p.Of[n.A]
	}
	return p.plain[api.TypeAny]
}

// statement: a return has a function around it, and what is asked for fits.
func (p *Program) statement(i int) {
	if n := p.Nodes[i]; n.Kind == api.NodeReturn && p.Functions[i] == nodes.None {
		giveup.At(api.ErrState, n.At)
	}
	p.fitAll(i)
}

// fitAll gives up at a node that has a part that does not fit what is asked for.
func (p *Program) fitAll(i int) {
	p.Asks(i, func(part, asked int) { p.fit(i, part, asked) })
}

// Asks tells each part of a node of which a type is asked for, and that type; not what stands in `[ ]`, which is not guarded.
func (p *Program) Asks(i int, tell func(part, asked int)) {
	switch n := p.Nodes[i]; n.Kind {
	case api.NodeCall:
		p.asksHanded(n, tell)
	case api.NodeAs:
		tell(n.A, n.Type)
	case api.NodeLet:
		if n.Type != nodes.None {
			tell(n.A, n.Type)
		}
	case api.NodeSet:
		tell(n.A, p.has(p.Names[i]))
	case api.NodePut:
		tell(n.B, p.field(i))
	case api.NodeLay:
		tell(n.C, p.place(i))
	case api.NodeReturn:
		tell(n.A, p.result(p.Nodes[p.Functions[i]]))
	}
}

// asksHanded: of what is called a function's type asks for its params'; any asks for nothing.
func (p *Program) asksHanded(n api.Node, tell func(part, asked int)) {
	if p.IsAny(n.A) {
		return
	}
	asked := p.Get(p.Of[n.A]).List
	for k, part := range n.List {
		tell(part, asked[k])
	}
}

// result of a function, as it is written, or any.
func (p *Program) result(n api.Node) int {
	if n.Type == nodes.None {
		return p.plain[api.TypeAny]
	}
	return n.Type
}

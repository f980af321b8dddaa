package tree

import "guardrail/api"

// program reads the block of all: statements to the end.
func (p *parser) program() int {
	var list []int
	for !p.ended() {
		list = append(list, p.statement())
	}
	return p.add(api.Node{Kind: api.NodeBlock, List: list})
}

func (p *parser) block() int {
	at := p.at()
	p.need("{")
	var list []int
	for !p.took("}") {
		list = append(list, p.statement())
	}
	return p.add(api.Node{Kind: api.NodeBlock, List: list, At: at})
}

func (p *parser) statement() int {
	begins := p.is("let", "print", "return", "if", "while") || p.beginsExpression()
	return p.inside(begins, p.anyStatement)
}

func (p *parser) anyStatement() int {
	at := p.at()
	switch {
	case p.took("let"):
		return p.let(at)
	case p.took("print"):
		return p.oneExpression(api.NodePrint, at)
	case p.took("return"):
		return p.oneExpression(api.NodeReturn, at)
	case p.took("if"):
		return p.branch(at)
	case p.took("while"):
		return p.loop(at)
	}
	return p.doOrSet()
}

func (p *parser) let(at int) int {
	name := p.name()
	typ := p.typeIfAny()
	p.need("=")
	value := p.expression()
	p.need(";")
	return p.addTyped(api.Node{Kind: api.NodeLet, Text: name, Type: typ, A: value, At: at})
}

// typeIfAny reads a type behind a colon, if there is one.
func (p *parser) typeIfAny() int {
	if p.took(":") {
		return p.typ()
	}
	return none
}

func (p *parser) oneExpression(kind, at int) int {
	value := p.expression()
	p.need(";")
	return p.add(api.Node{Kind: kind, A: value, At: at})
}

func (p *parser) branch(at int) int {
	asked := p.condition()
	then := p.block()
	other := none
	if p.took("else") {
		other = p.block()
	}
	return p.add(api.Node{Kind: api.NodeIf, A: asked, B: then, C: other, At: at})
}

func (p *parser) loop(at int) int {
	asked := p.condition()
	body := p.block()
	return p.add(api.Node{Kind: api.NodeWhile, A: asked, B: body, At: at})
}

func (p *parser) condition() int {
	p.need("(")
	asked := p.expression()
	p.need(")")
	return asked
}

// doOrSet reads a statement that begins with an expression.
func (p *parser) doOrSet() int {
	first := p.expression()
	n := api.Node{Kind: api.NodeDo, A: first, At: p.nodes[first].At}
	if p.is("=") {
		n = p.set(first)
	}
	p.need(";")
	return p.add(n)
}

// set reads from the `=` on; what is set to was numbered last, and is no node any more.
func (p *parser) set(to int) api.Node {
	n := p.nodes[to]
	kind := setKind(n.Kind)
	if kind == 0 {
		p.fail(api.ErrForm)
	}
	p.nodes = p.nodes[:to]
	p.need("=")
	value := p.expression()
	n.Kind = kind
	switch kind {
	case api.NodeSet:
		n.A = value
	case api.NodePut:
		n.B = value
	case api.NodeLay:
		n.C = value
	}
	return n
}

// setKind answers which statement sets to a node of this kind: 0 if none does.
func setKind(kind int) int {
	switch kind {
	case api.NodeVar:
		return api.NodeSet
	case api.NodeGet:
		return api.NodePut
	case api.NodeAt:
		return api.NodeLay
	}
	return 0
}

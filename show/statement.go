package show

import (
	"guardrail/api"
	"guardrail/shape"
)

// printer writes the nodes of a program.
type printer struct {
	shape.Writer
	nodes []api.Node
	deep  int // blocks around
}

func (p *printer) statements(block int) {
	for _, i := range p.nodes[block].List {
		p.margin()
		p.statement(p.nodes[i])
		p.Say("\n")
	}
}

func (p *printer) margin() {
	for range p.deep {
		p.Say("  ")
	}
}

func (p *printer) block(i int) {
	p.Say("{\n")
	p.deep++
	p.statements(i)
	p.deep--
	p.margin()
	p.Say("}")
}

func (p *printer) statement(n api.Node) {
	switch n.Kind {
	case api.NodeIf:
		p.when("if", n)
		if n.C >= 0 {
			p.Say(" else ")
			p.block(n.C)
		}
	case api.NodeWhile:
		p.when("while", n)
	default:
		p.line(n)
		p.Say(";")
	}
}

func (p *printer) when(word string, n api.Node) {
	p.Say(word, " (")
	p.expression(n.A)
	p.Say(") ")
	p.block(n.B)
}

// line writes a statement that ends with a `;`, but for that.
func (p *printer) line(n api.Node) {
	switch n.Kind {
	case api.NodeLet:
		p.Say("let ", n.Text)
		p.typeIfAny(n.Type)
		p.Say(" = ")
	case api.NodeSet:
		p.Say(n.Text, " = ")
	case api.NodePut:
		p.get(n.A, n.Text)
		p.Say(" = ")
		p.expression(n.B)
		return
	case api.NodeLay:
		p.at(n.A, n.B)
		p.Say(" = ")
		p.expression(n.C)
		return
	case api.NodePrint:
		p.Say("print ")
	case api.NodeReturn:
		p.Say("return ")
	}
	p.expression(n.A)
}

func (p *printer) typeIfAny(i int) {
	if i >= 0 {
		p.Say(": ")
		p.Type(i)
	}
}

package show

import (
	"strconv"

	"guardrail/api"
)

// How much an expression holds together, by its sign; what has none holds most.
const (
	bindsCompare = iota + 1
	bindsSum
	bindsProduct
	bindsOne
	bindsMost
)

func binds(n api.Node) int {
	switch {
	case n.Kind == api.NodeOne:
		return bindsOne
	case n.Kind != api.NodeTwo:
		return bindsMost
	}
	switch n.Text {
	case "*":
		return bindsProduct
	case "+", "-":
		return bindsSum
	}
	return bindsCompare
}

// within writes an expression, in brackets if it binds less than it must there.
func (p *printer) within(i, least int) {
	if binds(p.nodes[i]) >= least {
		p.expression(i)
		return
	}
	p.Say("(")
	p.expression(i)
	p.Say(")")
}

func (p *printer) expression(i int) {
	switch n := p.nodes[i]; n.Kind {
	case api.NodeTwo:
		p.two(n)
	case api.NodeOne:
		p.one(n)
	case api.NodeCall:
		p.within(n.A, bindsMost)
		p.row("(", n.List, ")")
	case api.NodeGet:
		p.get(n.A, n.Text)
	case api.NodeAt:
		p.at(n.A, n.B)
	case api.NodeAs:
		p.within(n.A, bindsMost)
		p.Say(" as ")
		p.Type(n.Type)
	default:
		p.simple(n)
	}
}

func (p *printer) simple(n api.Node) {
	switch n.Kind {
	case api.NodeNum:
		p.Say(strconv.Itoa(n.N))
	case api.NodeText:
		p.Say(`"`, n.Text, `"`)
	case api.NodeBool:
		p.Say(strconv.FormatBool(n.N == 1))
	case api.NodeNull:
		p.Say("null")
	case api.NodeVar:
		p.Say(n.Text)
	case api.NodeFunc:
		p.function(n)
	case api.NodeObject:
		p.object(n.List)
	case api.NodeArray:
		p.row("[", n.List, "]")
	}
}

func (p *printer) two(n api.Node) {
	own := binds(n)
	left := own
	if own == bindsCompare {
		left++ // of these signs there is but one in a row
	}
	p.within(n.A, left)
	p.Say(" ", n.Text, " ")
	p.within(n.B, own+1)
}

func (p *printer) one(n api.Node) {
	p.Say(n.Text)
	if n.Text == "typeof" {
		p.Say(" ")
	}
	p.within(n.A, bindsOne)
}

func (p *printer) get(of int, name string) {
	p.within(of, bindsMost)
	p.Say(".", name)
}

func (p *printer) at(of, place int) {
	p.within(of, bindsMost)
	p.Say("[")
	p.expression(place)
	p.Say("]")
}

func (p *printer) row(begin string, list []int, end string) {
	p.Say(begin)
	p.Row(len(list), ", ", func(k int) { p.expression(list[k]) })
	p.Say(end)
}

func (p *printer) object(list []int) {
	if len(list) == 0 {
		p.Say("{}")
		return
	}
	p.Say("{ ")
	p.Row(len(list), ", ", func(k int) {
		part := p.nodes[list[k]]
		p.Say(part.Text, ": ")
		p.expression(part.A)
	})
	p.Say(" }")
}

func (p *printer) function(n api.Node) {
	p.Say("fn(")
	p.Row(len(n.List), ", ", func(k int) {
		param := p.nodes[n.List[k]]
		p.Say(param.Text)
		p.typeIfAny(param.Type)
	})
	p.Say(")")
	p.typeIfAny(n.Type)
	p.Say(" ")
	p.block(n.A)
}

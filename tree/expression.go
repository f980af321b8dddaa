package tree

import (
	"strconv"

	"guardrail/api"
)

func (p *parser) expression() int {
	return p.inside(p.beginsExpression(), p.comparison)
}

func (p *parser) beginsExpression() bool {
	switch p.token().Kind {
	case api.TokenName, api.TokenNumber, api.TokenText:
		return true
	}
	return p.is("true", "false", "null", "fn", "(", "[", "{", "!", "-", "typeof")
}

func (p *parser) comparison() int {
	left := p.sum()
	if p.is("==", "<") {
		return p.two(left, p.sum)
	}
	return left
}

func (p *parser) sum() int { return p.row(p.product, "+", "-") }

func (p *parser) product() int { return p.row(p.operand, "*") }

// row reads parts with any of these signs between them, the left ones first.
func (p *parser) row(part func() int, signs ...string) int {
	left := part()
	for p.is(signs...) {
		left = p.two(left, part)
	}
	return left
}

func (p *parser) two(left int, part func() int) int {
	sign := p.take().Text
	right := part()
	return p.add(api.Node{Kind: api.NodeTwo, Text: sign, A: left, B: right, At: p.nodes[left].At})
}

func (p *parser) operand() int {
	if !p.is("!", "-", "typeof") {
		return p.withTail(p.simple())
	}
	sign := p.take()
	of := p.inside(p.beginsExpression(), p.operand)
	return p.add(api.Node{Kind: api.NodeOne, Text: sign.Text, A: of, At: sign.At})
}

// withTail reads what stands behind a simple expression, as often as it does.
func (p *parser) withTail(head int) int {
	for {
		n := api.Node{A: head, Type: none, At: p.nodes[head].At}
		switch {
		case p.took("("):
			n.Kind, n.List = api.NodeCall, p.list(")", p.expression)
		case p.took("."):
			n.Kind, n.Text = api.NodeGet, p.name()
		case p.took("["):
			n.Kind, n.B = api.NodeAt, p.expression()
			p.need("]")
		case p.took("as"):
			n.Kind, n.Type = api.NodeAs, p.typ()
		default:
			return head
		}
		head = p.addTyped(n)
	}
}

func (p *parser) simple() int {
	at := p.at()
	switch p.token().Kind {
	case api.TokenNumber:
		return p.number(at)
	case api.TokenText:
		return p.add(api.Node{Kind: api.NodeText, Text: p.take().Text, At: at})
	case api.TokenName:
		return p.add(api.Node{Kind: api.NodeVar, Text: p.take().Text, At: at})
	}
	switch {
	case p.took("true"):
		return p.add(api.Node{Kind: api.NodeBool, N: 1, At: at})
	case p.took("false"):
		return p.add(api.Node{Kind: api.NodeBool, At: at})
	case p.took("null"):
		return p.add(api.Node{Kind: api.NodeNull, At: at})
	case p.took("fn"):
		return p.function(at)
	case p.took("["):
		return p.add(api.Node{Kind: api.NodeArray, List: p.list("]", p.expression), At: at})
	case p.took("{"):
		return p.object(at)
	}
	return p.brackets()
}

func (p *parser) number(at int) int {
	n, _ := strconv.Atoi(p.take().Text) // nine digits at most: no error
	return p.add(api.Node{Kind: api.NodeNum, N: n, At: at})
}

func (p *parser) brackets() int {
	p.need("(")
	within := p.expression()
	p.need(")")
	return within
}

func (p *parser) object(at int) int {
	var names []string
	parts := p.list("}", func() int {
		at, name := p.at(), p.newName(&names)
		p.need(":")
		return p.add(api.Node{Kind: api.NodePart, Text: name, A: p.expression(), At: at})
	})
	return p.add(api.Node{Kind: api.NodeObject, List: parts, At: at})
}

func (p *parser) function(at int) int {
	p.need("(")
	var names []string
	params := p.list(")", func() int {
		at, name := p.at(), p.newName(&names)
		return p.addTyped(api.Node{Kind: api.NodeParam, Text: name, Type: p.typeIfAny(), At: at})
	})
	result := p.typeIfAny()
	body := p.block()
	return p.addTyped(api.Node{Kind: api.NodeFunc, List: params, Type: result, A: body, At: at})
}

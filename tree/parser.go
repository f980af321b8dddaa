package tree

import (
	"slices"

	"guardrail/api"
	"guardrail/giveup"
)

// none stands for a type, or a block, that a node does not have.
const none = -1

// parser goes through the tokens once; the nodes and types that have ended are numbered by their places in its lists.
type parser struct {
	tokens []api.Token
	next   int // the token that is looked at
	deep   int // how many statements, expressions, types and operands are around it
	nodes  []api.Node
	types  []api.Type
}

// whole reads a part that must go to the end of the text, and answers what is wrong with it.
func (p *parser) whole(part func() int) api.Fault {
	fault := giveup.Fault(func() {
		part()
		if !p.ended() {
			p.fail(api.ErrForm)
		}
	})
	if fault.Err == api.OK && (len(p.nodes) > api.MaxNodes || len(p.types) > api.MaxTypes) {
		return api.Fault{Err: api.ErrMany}
	}
	return fault
}

// fail gives up at the token that is looked at.
func (p *parser) fail(err api.Errno) { giveup.At(err, p.at()) }

// inside reads a part that may be in itself; what can't begin it is told ahead of its being too deep.
func (p *parser) inside(begins bool, part func() int) int {
	if !begins {
		p.fail(api.ErrForm)
	}
	if p.deep >= api.MaxDeep {
		p.fail(api.ErrDeep)
	}
	p.deep++
	n := part()
	p.deep--
	return n
}

// list reads parts with commas between them, and the sign that ends them.
func (p *parser) list(end string, part func() int) []int {
	var list []int
	for !p.took(end) {
		if len(list) > 0 {
			p.need(",")
		}
		list = append(list, part())
	}
	return list
}

func (p *parser) token() api.Token { return p.tokens[p.next] }

func (p *parser) at() int { return p.token().At }

func (p *parser) ended() bool { return p.token().Kind == api.TokenEnd }

// is tells whether one of these signs or words is looked at; a text between marks may read the same, and is none.
func (p *parser) is(marks ...string) bool {
	t := p.token()
	return (t.Kind == api.TokenSign || t.Kind == api.TokenWord) && slices.Contains(marks, t.Text)
}

// took goes on behind this sign or word, if it is looked at.
func (p *parser) took(mark string) bool {
	is := p.is(mark)
	if is {
		p.next++
	}
	return is
}

// need goes on behind this sign or word, and gives up if it is not looked at.
func (p *parser) need(mark string) {
	if !p.took(mark) {
		p.fail(api.ErrForm)
	}
}

// take goes on behind the token that is looked at; the end is never taken.
func (p *parser) take() api.Token {
	t := p.token()
	p.next++
	return t
}

func (p *parser) name() string {
	if p.token().Kind != api.TokenName {
		p.fail(api.ErrForm)
	}
	return p.take().Text
}

// newName reads a name that is not among those already there, and puts it there.
func (p *parser) newName(there *[]string) string {
	if p.token().Kind == api.TokenName && slices.Contains(*there, p.token().Text) {
		p.fail(api.ErrTwice)
	}
	name := p.name()
	*there = append(*there, name)
	return name
}

// add numbers a node that has no type.
func (p *parser) add(n api.Node) int {
	n.Type = none
	return p.addTyped(n)
}

// addTyped numbers a node whose type is set, to none maybe.
func (p *parser) addTyped(n api.Node) int {
	p.nodes = append(p.nodes, n)
	return len(p.nodes) - 1
}

func (p *parser) addType(t api.Type) int {
	p.types = append(p.types, t)
	return len(p.types) - 1
}

package place

import (
	"guardrail/api"
	"guardrail/checked"
	"guardrail/nodes"
)

// placer goes through a program that was checked, and puts guards where its types are not sure.
type placer struct {
	*checked.Program
	guards map[int]int // by nodes: the tags that are let through
}

func (p *placer) node(i int) {
	switch n := p.Nodes[i]; n.Kind {
	case api.NodeParam:
		if n.Type != nodes.None {
			p.guard(i, n.Type)
		}
	case api.NodeCall, api.NodeGet, api.NodeAt:
		p.guard(i, p.Of[i])
	}
	p.Asks(i, func(part, asked int) {
		if p.IsAny(part) {
			p.guard(part, asked)
		}
	})
}

// guard a node by a type; one that lets all through (as any and unknown do) needs none.
func (p *placer) guard(i, asked int) {
	if tags := p.Tags(asked); tags != api.TagsAll {
		p.guards[i] = tags
	}
}

// rising answers the guards by their nodes' numbers.
func (p *placer) rising() []api.Guard {
	var list []api.Guard
	for i := range p.Nodes {
		if tags, ok := p.guards[i]; ok {
			list = append(list, api.Guard{Node: i, Tags: tags})
		}
	}
	return list
}

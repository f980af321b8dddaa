// Package tree: programs: see doc/02-tree.md.
package tree

import (
	"guardrail/api"
	"guardrail/token"
)

// Parse a program.
func Parse(s string) (api.Program, api.Fault) {
	tokens, fault := token.Scan(s)
	if fault.Err != api.OK {
		return api.Program{}, fault
	}
	p := &parser{tokens: tokens}
	if fault := p.whole(p.program); fault.Err != api.OK {
		return api.Program{}, fault
	}
	return api.Program{Nodes: p.nodes, Types: p.types, Main: len(p.nodes) - 1}, api.Fault{}
}

// Type alone.
func Type(s string) ([]api.Type, api.Fault) {
	tokens, fault := token.Scan(s)
	if fault.Err != api.OK {
		return nil, fault
	}
	p := &parser{tokens: tokens}
	if fault := p.whole(p.typ); fault.Err != api.OK {
		return nil, fault
	}
	return p.types, api.Fault{}
}

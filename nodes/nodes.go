// Package nodes: what the layers that go through the nodes of a program have in common.
package nodes

import (
	"slices"

	"guardrail/api"
)

// None stands for a node, or a type, that there is not.
const None = -1

// IsExpression: has it a type?
func IsExpression(n api.Node) bool {
	return api.NodeNum <= n.Kind && n.Kind <= api.NodeAs
}

// Parts of a node, as they stand in the text.
func Parts(n api.Node) []int {
	switch n.Kind {
	case api.NodeObject, api.NodeArray, api.NodeBlock:
		return slices.Clone(n.List)
	case api.NodeCall:
		return append([]int{n.A}, n.List...)
	case api.NodeFunc:
		return append(slices.Clone(n.List), n.A)
	case api.NodeGet, api.NodeOne, api.NodeAs, api.NodePart, api.NodeLet, api.NodeSet, api.NodePrint, api.NodeReturn, api.NodeDo:
		return []int{n.A}
	case api.NodeAt, api.NodeTwo, api.NodePut, api.NodeWhile:
		return []int{n.A, n.B}
	case api.NodeLay:
		return []int{n.A, n.B, n.C}
	case api.NodeIf:
		if n.C == None {
			return []int{n.A, n.B}
		}
		return []int{n.A, n.B, n.C}
	}
	return nil
}

// Functions answers, by the nodes of a program, the innermost function around each, or None; a param's is the one that it is of.
func Functions(list []api.Node) []int {
	around := make([]int, len(list))
	for i, n := range slices.Backward(list) {
		if i == len(list)-1 {
			around[i] = None
		}
		within := around[i]
		if n.Kind == api.NodeFunc {
			within = i
		}
		for _, k := range Parts(n) {
			around[k] = within
		}
	}
	return around
}

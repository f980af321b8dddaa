package elide

import (
	"maps"
	"slices"

	"guardrail/api"
	"guardrail/bind"
	"guardrail/checked"
	"guardrail/nodes"
)

// follower goes through a program as it runs, which is by its nodes' numbers too: a node ends behind its parts.
type follower struct {
	*checked.Program
	guards map[int]int // by nodes: the tags of all guards, whether they are left or not
	caught []int       // the lets and params of which nothing is ever known
	known  map[int]int // by lets and params: the tags that are Known; of one that is not there all
	left   []api.Guard
}

// newFollower of a program that has these guards.
func newFollower(s string, guards []api.Guard) *follower {
	program, _ := checked.Read(s) // no fault: it has guards
	caught, _ := bind.Caught(s)
	f := &follower{Program: program, guards: map[int]int{}, caught: caught, known: map[int]int{}}
	for _, g := range guards {
		f.guards[g.Node] = g.Tags
	}
	return f
}

// aside follows something that changes nothing of what is Known behind it.
func (f *follower) aside(do func()) {
	around := f.known
	f.known = maps.Clone(around)
	do()
	f.known = around
}

// all follows these parts, one behind the other.
func (f *follower) all(parts ...int) {
	for _, i := range parts {
		f.node(i)
	}
}

func (f *follower) node(i int) {
	n := f.Nodes[i]
	switch n.Kind {
	case api.NodeFunc:
		f.function(n)
	case api.NodeIf:
		f.choice(n)
	case api.NodeWhile:
		f.loop(n)
	default:
		f.all(nodes.Parts(n)...)
	}
	switch n.Kind {
	case api.NodeLet:
		f.learn(i, f.sure(n.A))
	case api.NodeSet:
		f.learn(f.Names[i], f.sure(n.A))
	default:
		f.guard(i)
	}
}

// function: when its block runs is not known, so that nothing is that was Known around it.
func (f *follower) function(n api.Node) {
	f.aside(func() {
		clear(f.known)
		f.all(nodes.Parts(n)...)
	})
}

// choice: whichever block runs, what it learns holds in it alone.
func (f *follower) choice(n api.Node) {
	f.node(n.A)
	blocks := nodes.Parts(n)[1:]
	for _, block := range blocks {
		f.aside(func() { f.node(block) })
	}
	f.forgetSet(blocks...)
}

// loop: what is set in it may have been set already when it begins again.
func (f *follower) loop(n api.Node) {
	f.forgetSet(n.A, n.B)
	f.aside(func() { f.all(n.A, n.B) })
}

// forgetSet forgets all names that are set within these; what is set within a function is Caught, or its own.
func (f *follower) forgetSet(parts ...int) {
	for _, i := range parts {
		n := f.Nodes[i]
		switch n.Kind {
		case api.NodeFunc:
			continue
		case api.NodeSet:
			delete(f.known, f.Names[i])
		}
		f.forgetSet(nodes.Parts(n)...)
	}
}

// guard: one of a name tells what its value has, and need not look if that is Known already.
func (f *follower) guard(i int) {
	tags, ok := f.guards[i]
	if !ok {
		return
	}
	name := f.name(i)
	if f.Nodes[i].Kind != api.NodeVar || f.tags(name)&^tags != 0 {
		f.left = append(f.left, api.Guard{Node: i, Tags: tags})
	}
	if name != nodes.None {
		f.learn(name, f.tags(name)&tags)
	}
}

// name of which a guard at this node tells: a let or a param, or None.
func (f *follower) name(i int) int {
	switch f.Nodes[i].Kind {
	case api.NodeParam:
		return i
	case api.NodeVar:
		return f.Names[i]
	}
	return nodes.None
}

// learn what is Known of a name from here on.
func (f *follower) learn(name, tags int) {
	if !slices.Contains(f.caught, name) {
		f.known[name] = tags
	}
}

// tags that are Known of a name.
func (f *follower) tags(name int) int {
	if tags, ok := f.known[name]; ok {
		return tags
	}
	return api.TagsAll
}

package run

import (
	"guardrail/api"
	"guardrail/checked"
	"guardrail/nodes"
)

// machine runs a program that was checked.
type machine struct {
	*checked.Program
	guards map[int]int // by nodes: the tags that are let through
	fuel   int         // how much may be spent yet
	calls  int         // how many run within each other
	things int         // how many were made
	lines  []string
	events []api.Event
}

// newMachine for a program that has no fault, with these guards.
func newMachine(s string, guards []api.Guard, fuel int) *machine {
	program, _ := checked.Read(s)
	m := &machine{Program: program, guards: map[int]int{}, fuel: fuel}
	for _, g := range guards {
		m.guards[g.Node] = g.Tags
	}
	return m
}

// over is what a run that is over gives up with, returned what a return does: each a type of its own, so that neither is taken for the other.
type over struct{ end, node int }

type returned struct{ value value }

// stop the run, however deep it is.
func stop(end, node int) { panic(over{end, node}) }

// run the program, and answer how it ended.
func (m *machine) run() (how over) {
	defer func() {
		r := recover()
		if o, ok := r.(over); ok {
			how = o
		} else if r != nil {
			panic(r)
		}
	}()
	m.block(m.Main, nil)
	return over{api.EndDone, nodes.None}
}

// spend what a statement or an expression costs.
func (m *machine) spend() {
	if m.fuel == 0 {
		stop(api.EndFuel, nodes.None)
	}
	m.fuel--
}

// guarded looks at what a node yields (a param: is handed), if it has a guard.
func (m *machine) guarded(i int, v value) value {
	if tags, ok := m.guards[i]; ok {
		if v.tag&tags == 0 {
			stop(api.EndGuard, i)
		}
		m.events = append(m.events, api.Event{Node: i, Tag: v.tag})
	}
	return v
}

// made counts a thing, or a place of an array, ahead of its being there.
func (m *machine) made(i int) {
	if m.things == api.MaxThings {
		stop(api.EndHeap, i)
	}
	m.things++
}

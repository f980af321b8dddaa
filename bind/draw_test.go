package bind

import (
	"reflect"
	"slices"
	"strings"
	"testing"

	"guardrail/api"
	"guardrail/nodes"
	"guardrail/tree"
)

// writer writes programs, drawn by numbers that are the same each time; most of their names are known where they stand.
type writer struct {
	draw   uint64
	blocks [][]string // the names of those around
}

func (w *writer) below(n int) int {
	w.draw = w.draw*6364136223846793005 + 1442695040888963407
	return int(w.draw >> 33 % uint64(n))
}

func (w *writer) any() string { return string("abcd"[w.below(4)]) }

// name that is known, if there is one; now and then any.
func (w *writer) name() string {
	known := slices.Concat(w.blocks...)
	if w.below(80) == 0 || len(known) == 0 {
		return w.any()
	}
	return known[w.below(len(known))]
}

// newName is one that the block does not have, if there is one; now and then any.
func (w *writer) newName() string {
	own := w.blocks[len(w.blocks)-1]
	name := w.any()
	for slices.Contains(own, name) && w.below(20) > 0 {
		name = w.any()
	}
	return name
}

func (w *writer) know(name string) {
	own := &w.blocks[len(w.blocks)-1]
	*own = append(*own, name)
}

// block writes statements where these names are known.
func (w *writer) block(deep int, names ...string) string {
	w.blocks = append(w.blocks, names)
	var all []string
	for range w.below(5) {
		all = append(all, w.statement(deep-1))
	}
	w.blocks = w.blocks[:len(w.blocks)-1]
	return "{ " + strings.Join(all, " ") + " }"
}

func (w *writer) statement(deep int) string {
	switch w.below(7) {
	case 0, 1:
		return w.let(deep)
	case 2:
		return w.name() + " = " + w.expression(deep) + ";"
	case 3:
		return w.name() + "." + w.any() + " = " + w.expression(deep) + ";"
	case 4:
		return w.name() + "[" + w.expression(deep) + "] = " + w.expression(deep) + ";"
	case 5:
		if deep > 0 {
			return "if (" + w.expression(deep-1) + ") " + w.block(deep) + " else " + w.block(deep) + " while (" + w.name() + ") " + w.block(deep)
		}
	}
	return w.expression(deep) + ";"
}

func (w *writer) let(deep int) string {
	name := w.newName()
	if deep > 0 && w.below(2) == 0 {
		w.know(name)
		return "let " + name + " = " + w.function(deep) + ";"
	}
	s := "let " + name + " = " + w.expression(deep) + ";"
	w.know(name)
	return s
}

func (w *writer) function(deep int) string {
	params := []string{w.any(), "p"}[:w.below(3)]
	return "fn(" + strings.Join(params, ", ") + ") " + w.block(deep, params...)
}

func (w *writer) expression(deep int) string {
	if deep <= 0 {
		return w.name()
	}
	deep--
	switch w.below(6) {
	case 0:
		return w.name() + "(" + w.expression(deep) + ", " + w.expression(deep) + ")." + w.any()
	case 1:
		return w.function(deep) + "()"
	case 2:
		return w.function(deep)
	case 3:
		return "[" + w.expression(deep) + ", { a: -" + w.name() + ", b: 1 }]"
	case 4:
		return w.name() + " + " + w.name() + "[1] * 2"
	}
	return "1"
}

// reader answers by the words of E1 and E2: it goes from a name outwards.
type reader struct {
	nodes  []api.Node
	parent []int
}

func newReader(list []api.Node) reader {
	r := reader{list, make([]int, len(list))}
	for i, n := range list {
		for _, k := range nodes.Parts(n) {
			r.parent[k] = i
		}
	}
	return r
}

// among a list, the last let or param of a name that is ahead of a node.
func (r reader) among(list []int, ahead int, name string) int {
	found := -1
	for _, k := range list {
		if n := r.nodes[k]; k < ahead && n.Text == name && (n.Kind == api.NodeLet || n.Kind == api.NodeParam) {
			found = k
		}
	}
	return found
}

func (r reader) find(i int) int {
	name := r.nodes[i].Text
	for c, main := i, len(r.nodes)-1; c != main; c = r.parent[c] {
		p := r.parent[c]
		n := r.nodes[p]
		if n.Kind == api.NodeLet && r.nodes[c].Kind == api.NodeFunc && n.Text == name {
			return p
		}
		if n.Kind == api.NodeBlock || n.Kind == api.NodeFunc {
			if found := r.among(n.List, c, name); found >= 0 {
				return found
			}
		}
	}
	return -1
}

func (r reader) twice(i int) bool {
	block := r.parent[i]
	around := r.nodes[r.parent[block]]
	return r.among(r.nodes[block].List, i, r.nodes[i].Text) >= 0 || around.Kind == api.NodeFunc && r.among(around.List, i, r.nodes[i].Text) >= 0
}

func (r reader) function(i int) int {
	for main := len(r.nodes) - 1; i != main; {
		i = r.parent[i]
		if r.nodes[i].Kind == api.NodeFunc {
			return i
		}
	}
	return -1
}

func (r reader) answers() (names []api.Bound, caught []int, fault api.Fault) {
	fail := func(err api.Errno, at int) {
		if fault.Err == api.OK || at < fault.At {
			fault = api.Fault{Err: err, At: at}
		}
	}
	for i, n := range r.nodes {
		switch n.Kind {
		case api.NodeVar, api.NodeSet:
			to := r.find(i)
			if to < 0 {
				fail(api.ErrNone, n.At)
				continue
			}
			names = append(names, api.Bound{Node: i, To: to})
			if n.Kind == api.NodeSet && r.function(i) != r.function(to) && !slices.Contains(caught, to) {
				caught = append(caught, to)
			}
		case api.NodeLet:
			if r.twice(i) {
				fail(api.ErrTwice, n.At)
			}
		}
	}
	if fault.Err != api.OK {
		return nil, nil, fault
	}
	slices.Sort(caught)
	return names, caught, fault
}

// E1, E2: drawn programs, against the words of the document.
func TestDrawn(t *testing.T) {
	w := &writer{draw: 1}
	seen := map[api.Errno]int{}
	caughtSeen := 0
	for range 3000 {
		s := "let a = 1;" + strings.Trim(w.block(3, "a"), "{}")
		p, fault := tree.Parse(s)
		if fault.Err != api.OK {
			continue // too long
		}
		names, caught, fault := newReader(p.Nodes).answers()
		seen[fault.Err]++
		caughtSeen += len(caught)
		if got, why := Names(s); !reflect.DeepEqual(got, names) || why != fault {
			t.Fatalf("Names(%q): %v %v, and must be %v %v", s, got, why, names, fault)
		}
		if got, why := Caught(s); !slices.Equal(got, caught) || why != fault {
			t.Fatalf("Caught(%q): %v %v, and must be %v %v", s, got, why, caught, fault)
		}
	}
	if min(seen[api.OK], seen[api.ErrNone], seen[api.ErrTwice], caughtSeen) < 100 {
		t.Errorf("too few of a kind: %v, %d caught", seen, caughtSeen)
	}
}

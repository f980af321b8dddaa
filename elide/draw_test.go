package elide

import (
	"fmt"
	"slices"
	"testing"

	"guardrail/api"
	"guardrail/bind"
	"guardrail/nodes"
	"guardrail/place"
	"guardrail/tree"
)

// writer writes programs with many guards of few names, drawn by numbers that are the same each time.
type writer struct {
	draw  uint64
	names []string // those that are any
	own   int      // how many of them are not of the function that is written
	calls []string // the functions that can be called
	made  int
}

func (w *writer) below(n int) int {
	w.draw = w.draw*6364136223846793005 + 1442695040888963407
	return int(w.draw >> 33 % uint64(n))
}

func (w *writer) one(of ...string) string { return of[w.below(len(of))] }

func (w *writer) name() string { return w.names[w.below(len(w.names))] }

// setName is mostly one of the function's own, so that not too many are caught.
func (w *writer) setName() string {
	if own := w.names[w.own:]; len(own) > 0 && w.below(4) > 0 {
		return own[w.below(len(own))]
	}
	return w.name()
}

func (w *writer) newName(begin string) string {
	w.made++
	return fmt.Sprint(begin, w.made)
}

// program: what asks, some names, and statements.
func (w *writer) program() string {
	w.names, w.own, w.calls, w.made = []string{"a", "c"}, 0, nil, 0
	s := "let g = fn(x: num) { return x; }; let k = fn(x: text) {}; let b = fn(x: num | text) { print x; }; let two = fn(x: num, y: num | null) {}; "
	return s + "let a: any = " + w.one("1", "\"t\"", "null") + "; let c = 1 as any; " + w.statements(7, 3)
}

// Drawn answers programs for the tests of runs, which stand in a package of their own, as package run leans on this one.
func Drawn(n int) []string {
	w := &writer{draw: 2}
	var list []string
	for range n {
		list = append(list, w.program())
	}
	return list
}

func (w *writer) statements(n, deep int) string {
	s := ""
	for range 1 + w.below(n) {
		s += w.statement(deep) + " "
	}
	return s
}

// block: what is let in it is forgotten behind it.
func (w *writer) block(deep int) string {
	names, calls := len(w.names), len(w.calls)
	s := "{ " + w.statements(4, deep-1) + "}"
	w.names, w.calls = w.names[:names], w.calls[:calls]
	return s
}

// asks writes an expression with a guard of a name.
func (w *writer) asks() string {
	switch w.below(6) {
	case 0:
		return "(" + w.name() + " as " + w.one("num", "num | text", "num | null", "num | bool | text") + ")"
	case 1:
		return "two(" + w.name() + ", " + w.name() + ")"
	case 2:
		return w.one("k", "b", "b", "b", "b") + "(" + w.name() + ")"
	}
	return w.one("g", "g", "b") + "(" + w.name() + ")"
}

func (w *writer) value(deep int) string {
	if deep > 0 {
		switch w.below(7) {
		case 0:
			return "[" + w.asks() + "]"
		case 1:
			return w.asks()
		case 2:
			return "{ p: " + w.value(0) + ", q: " + w.asks() + " }.p"
		}
	}
	if w.below(12) == 0 {
		return w.one("true", "null", "\"t\"", "typeof "+w.name(), w.name()+" == 1")
	}
	return w.one("1", "1", "2 - 1", "1 + 1", "{ p: 1 }.p", "g(1)", "\"t\"", w.name(), w.name(), w.name())
}

func (w *writer) statement(deep int) string {
	switch w.below(14) {
	case 0, 1, 2:
		return w.asks() + ";"
	case 3, 4:
		return w.setName() + " = " + w.value(deep) + ";"
	case 5:
		return w.let(deep)
	case 6:
		n, v := w.newName("m"), w.newName("v")
		s := "let " + n + ": num | text = " + w.one(w.name(), w.name(), "{ p: "+w.name()+" }.p") + "; let " + v + ": any = " + n + ";"
		w.names = append(w.names, v)
		return s
	case 7:
		return "print " + w.name() + ";"
	case 8:
		if deep > 0 {
			return w.choice(deep)
		}
	case 9:
		if deep > 0 {
			return w.loop(deep)
		}
	case 10, 11:
		if deep > 0 {
			return w.function(deep)
		}
	case 12, 13:
		if n := len(w.calls); n > 0 {
			return w.calls[w.below(n)] + "(" + w.value(deep) + ", 1);"
		}
	}
	return w.asks() + ";"
}

func (w *writer) let(deep int) string {
	name := w.newName("v")
	s := "let " + name + ": any = " + w.value(deep) + ";"
	w.names = append(w.names, name)
	return s
}

func (w *writer) choice(deep int) string {
	s := "if (" + w.one(w.name()+" == 1", "true", "null", w.asks()) + ") " + w.block(deep)
	if w.below(2) == 0 {
		s += " else " + w.block(deep)
	}
	return s
}

// loop: twice, or so.
func (w *writer) loop(deep int) string {
	i := w.newName("i")
	e := w.one(i+" < 2", i+" < 3", "["+w.asks()+", "+i+" < 2][1]")
	return "let " + i + " = 0; while (" + e + ") { " + i + " = " + i + " + 1; " + w.block(deep)[1:]
}

// function that is called, now or later.
func (w *writer) function(deep int) string {
	ahead, own := len(w.names), w.own
	f, p, q, v := w.newName("f"), w.newName("p"), w.newName("q"), w.newName("v")
	w.own = ahead
	w.names = append(w.names, p, v)
	s := "let " + f + " = fn(" + p + ", " + q + w.one("", ": num", ": text | num") + ") { let " + v + ": any = " + q + "; " + w.block(deep)[1:] + "; "
	w.names, w.own, w.calls = w.names[:ahead], own, append(w.calls, f)
	return s + w.one("", f+"("+w.value(deep)+", 2);")
}

// reader answers by the words of H1 and H2: what is Known is a list by lets and params, new behind each node.
type reader struct {
	api.Program
	names, guards     map[int]int
	caught, functions []int
	left              []api.Guard
}

func newReader(s string) *reader {
	r := &reader{names: map[int]int{}, guards: map[int]int{}}
	r.Program, _ = tree.Parse(s)
	r.caught, _ = bind.Caught(s)
	r.functions = nodes.Functions(r.Nodes)
	names, _ := bind.Names(s)
	for _, b := range names {
		r.names[b.Node] = b.To
	}
	all, _ := place.Guards(s)
	for _, g := range all {
		r.guards[g.Node] = g.Tags
	}
	return r
}

func (r *reader) nothing() []int { return slices.Repeat([]int{api.TagsAll}, len(r.Nodes)) }

// with answers what is known, with other tags of a name.
func (r *reader) with(known []int, name, tags int) []int {
	known = slices.Clone(known)
	if !slices.Contains(r.caught, name) {
		known[name] = tags
	}
	return known
}

// without answers what is known, but nothing of names that are set within these nodes, functions in them left out.
func (r *reader) without(known []int, first, last int) []int {
	for i := first; i <= last; i++ {
		if r.Nodes[i].Kind == api.NodeSet && r.functions[i] == r.functions[last] {
			known = r.with(known, r.names[i], api.TagsAll)
		}
	}
	return known
}

// behind answers what is known behind a node, of what is known ahead of it.
func (r *reader) behind(i int, known []int) []int {
	n := r.Nodes[i]
	switch n.Kind {
	case api.NodeIf:
		known = r.behind(n.A, known)
		r.behind(n.B, known)
		if n.C >= 0 {
			r.behind(n.C, known)
		}
		return r.without(known, n.A+1, i)
	case api.NodeWhile:
		known = r.without(known, r.first(i), i)
		r.behind(n.B, r.behind(n.A, known))
		return known
	case api.NodeFunc:
		within := r.nothing()
		for _, k := range append(slices.Clone(n.List), n.A) {
			within = r.behind(k, within)
		}
		return known
	}
	for _, k := range nodes.Parts(n) {
		known = r.behind(k, known)
	}
	switch n.Kind {
	case api.NodeLet:
		return r.with(known, i, r.sure(n.A, known))
	case api.NodeSet:
		return r.with(known, r.names[i], r.sure(n.A, known))
	}
	return r.look(i, known)
}

// first node of those that are in a node.
func (r *reader) first(i int) int {
	for parts := nodes.Parts(r.Nodes[i]); len(parts) > 0; parts = nodes.Parts(r.Nodes[i]) {
		i = parts[0]
	}
	return i
}

// look at a guard, if there is one.
func (r *reader) look(i int, known []int) []int {
	tags, ok := r.guards[i]
	if !ok {
		return known
	}
	name, is := r.names[i]
	if r.Nodes[i].Kind == api.NodeParam {
		name = i
	} else if !is {
		r.left = append(r.left, api.Guard{Node: i, Tags: tags})
		return known
	}
	if !is || known[name]|tags != tags {
		r.left = append(r.left, api.Guard{Node: i, Tags: tags})
	}
	return r.with(known, name, known[name]&tags)
}

func (r *reader) sure(i int, known []int) int {
	n := r.Nodes[i]
	signs := map[string]int{"==": api.TagBool, "<": api.TagBool, "!": api.TagBool, "-": api.TagNum, "*": api.TagNum, "typeof": api.TagText}
	own := map[int]int{api.NodeNum: api.TagNum, api.NodeText: api.TagText, api.NodeBool: api.TagBool, api.NodeNull: api.TagNull, api.NodeFunc: api.TagFunc, api.NodeObject: api.TagObject, api.NodeArray: api.TagArray, api.NodeOne: signs[n.Text], api.NodeTwo: signs[n.Text]}
	switch {
	case n.Kind == api.NodeVar:
		return known[r.names[i]]
	case own[n.Kind] > 0:
		return own[n.Kind]
	case r.guards[i] > 0:
		return r.guards[i]
	}
	return api.TagsAll
}

// H1, H2: drawn programs, against the words of the document.
func TestDrawn(t *testing.T) {
	w := &writer{draw: 1}
	seen := map[string]int{}
	for range 2000 {
		s := w.program()
		all, fault := place.Guards(s)
		if fault.Err != api.OK {
			if fault.Err != api.ErrMany {
				t.Fatalf("Guards(%q): %v", s, fault)
			}
			continue
		}
		r := newReader(s)
		r.behind(r.Main, r.nothing())
		if got, fault := Guards(s); !slices.Equal(got, r.left) || fault != (api.Fault{}) {
			t.Fatalf("Guards(%q): %v %v, and must be %v", s, got, fault, r.left)
		}
		seen["left"] += len(r.left)
		seen["gone"] += len(all) - len(r.left)
		seen["caught"] += len(r.caught)
	}
	if min(seen["left"], seen["gone"]) < 4000 || seen["caught"] < 100 {
		t.Errorf("too few of a kind: %v", seen)
	}
}

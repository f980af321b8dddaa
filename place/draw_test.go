package place

import (
	"fmt"
	"slices"
	"testing"

	"guardrail/api"
	"guardrail/bind"
	"guardrail/check"
	"guardrail/nodes"
	"guardrail/tree"
	"guardrail/types"
)

// writer writes programs of which all is of its type, drawn by numbers that are the same each time.
type writer struct {
	draw   uint64
	names  []string // of those that are any
	made   int
	result []string // the types of the functions around
}

func (w *writer) below(n int) int {
	w.draw = w.draw*6364136223846793005 + 1442695040888963407
	return int(w.draw >> 33 % uint64(n))
}

func (w *writer) one(of ...string) string { return of[w.below(len(of))] }

func (w *writer) typ(deep int) string {
	if deep <= 0 || w.below(2) == 0 {
		return w.one("num", "num", "text", "bool", "null", "any", "unknown")
	}
	a, b := w.typ(deep-1), w.typ(deep-1)
	return w.one("{ a: "+a+"; b: "+b+"; }", "["+a+"]", "(("+a+") => "+b+")", "("+a+" | "+b+")", "("+a+" | "+b+")")
}

// loose writes an expression that is any.
func (w *writer) loose(deep int) string {
	name := w.names[w.below(len(w.names))]
	if deep <= 0 {
		return name
	}
	deep--
	switch w.below(6) {
	case 0:
		return w.loose(deep) + ".a"
	case 1:
		return w.loose(deep) + "[" + w.fitting("num", deep) + "]"
	case 2:
		return w.loose(deep) + "(" + w.fitting(w.typ(1), deep) + ", " + w.loose(deep) + ")"
	case 3:
		return "(" + w.loose(deep) + " + " + w.fitting(w.typ(1), deep) + ")"
	case 4:
		return "(" + w.fitting(w.typ(1), deep) + " as any)"
	}
	return name
}

// fitting writes an expression that fits a type.
func (w *writer) fitting(of string, deep int) string {
	deep--
	if deep <= 0 {
		return w.loose(0)
	}
	other := w.typ(1)
	switch w.below(8) {
	case 0:
		return "(" + w.fitting(other, deep) + " as " + of + ")"
	case 1:
		return "(" + w.loose(deep) + " as [" + of + "])[" + w.fitting("num", deep) + "]"
	case 2:
		return "(" + w.loose(deep) + " as { a: " + of + "; b: " + other + "; }).a"
	case 3:
		return "(" + w.loose(deep) + " as (" + other + ") => " + of + ")(" + w.fitting(other, deep) + ")"
	case 4:
		return "fn(p, q: " + other + "): " + of + " { return " + w.loose(0) + "; }(1, " + w.fitting(other, deep) + ")"
	}
	return w.loose(deep)
}

func (w *writer) statements(deep int) string {
	s, ahead := "", len(w.names)
	for range 1 + w.below(3) {
		s += w.statement(deep) + " "
	}
	w.names = w.names[:ahead]
	return s
}

func (w *writer) statement(deep int) string {
	of := w.typ(2)
	switch w.below(9) {
	case 0:
		return w.let(": "+of, of, deep)
	case 1:
		return w.let("", of, deep)
	case 2:
		return "(" + w.loose(1) + " as { a: " + of + "; b: any; }).a = " + w.fitting(of, deep) + ";"
	case 3:
		return "(" + w.loose(1) + " as [" + of + "])[" + w.fitting("num", 1) + "] = " + w.fitting(of, deep) + ";"
	case 4:
		if deep > 0 {
			return w.one("if", "while") + " (" + w.loose(1) + ") { " + w.statements(deep-1) + "}"
		}
	case 5, 6:
		if deep > 0 {
			return w.function(deep - 1)
		}
	case 7:
		if n := len(w.result); n > 0 {
			return "return " + w.fitting(w.result[n-1], deep) + ";"
		}
	}
	return w.one("print ", "") + w.loose(deep) + ";"
}

// let a name, and set it.
func (w *writer) let(written, of string, deep int) string {
	w.made++
	name := fmt.Sprint("n", w.made)
	return "let " + name + written + " = " + w.fitting(of, deep) + "; " + name + " = " + w.loose(deep) + ";"
}

func (w *writer) function(deep int) string {
	w.made++
	own, of, result := fmt.Sprint("p", w.made), w.typ(2), w.typ(2)
	w.names = append(w.names, own)
	w.result = append(w.result, result)
	s := w.one("f = ", "") + "fn(" + own + ", q: " + of + ")" + ": " + result + " { " + w.statements(deep) + "q = " + w.loose(1) + "; };"
	w.names, w.result = w.names[:len(w.names)-1], w.result[:len(w.result)-1]
	return s
}

// reader answers by the words of G1: it goes from each node to what is around it.
type reader struct {
	api.Program
	around, functions []int
	names             map[int]int
	of                map[int]string
}

func newReader(s string) *reader {
	r := &reader{names: map[int]int{}, of: map[int]string{}}
	r.Program, _ = tree.Parse(s)
	r.around = make([]int, len(r.Nodes))
	r.functions = nodes.Functions(r.Nodes)
	for i, n := range r.Nodes {
		for _, k := range nodes.Parts(n) {
			r.around[k] = i
		}
	}
	names, _ := bind.Names(s)
	for _, b := range names {
		r.names[b.Node] = b.To
	}
	typed, _ := check.Types(s)
	for _, t := range typed {
		r.of[t.Node] = t.Type
	}
	return r
}

func tags(list []api.Type, i int) int {
	if i < 0 {
		return api.TagsAll
	}
	t, all := list[i], 0
	for _, k := range t.List {
		all |= tags(list, k)
	}
	switch t.Kind {
	case api.TypeUnion:
		return all
	case api.TypeObject, api.TypeArray, api.TypeFunc:
		return api.TagObject << (t.Kind - api.TypeObject)
	case api.TypeAny, api.TypeUnknown:
		return api.TagsAll
	}
	return 1 << (t.Kind - 1)
}

// textTags: the tags of a type that is a text.
func textTags(s string) int {
	all, _ := types.Tags(s)
	return all
}

// within answers the tags of a part of what an expression has.
func (r *reader) within(i int, part func(t api.Type) int) int {
	list, _ := tree.Type(r.of[i])
	if t := list[len(list)-1]; t.Kind != api.TypeAny {
		return tags(list, part(t))
	}
	return api.TagsAll
}

// asked answers the tags of what is asked for of an expression where it stands.
func (r *reader) asked(i int) int {
	n := r.Nodes[r.around[i]]
	switch {
	case n.Kind == api.NodeCall && n.A != i:
		return r.within(n.A, func(t api.Type) int { return t.List[slices.Index(n.List, i)] })
	case n.Kind == api.NodeAs, n.Kind == api.NodeLet:
		return tags(r.Types, n.Type)
	case n.Kind == api.NodeSet:
		return r.nameTags(r.names[r.around[i]])
	case n.Kind == api.NodePut && n.B == i:
		return r.within(n.A, func(t api.Type) int {
			return t.Fields[slices.IndexFunc(t.Fields, func(f api.Field) bool { return f.Name == n.Text })].Type
		})
	case n.Kind == api.NodeLay && n.C == i:
		return r.within(n.A, func(t api.Type) int { return t.Of })
	case n.Kind == api.NodeReturn:
		return tags(r.Types, r.Nodes[r.functions[i]].Type)
	}
	return api.TagsAll
}

// nameTags: the tags of what a let or a param has.
func (r *reader) nameTags(i int) int {
	n := r.Nodes[i]
	if n.Kind == api.NodeLet && n.Type < 0 {
		return textTags(r.of[n.A])
	}
	return tags(r.Types, n.Type)
}

func (r *reader) guards() []api.Guard {
	var list []api.Guard
	for i, n := range r.Nodes {
		all := api.TagsAll
		switch {
		case n.Kind == api.NodeParam:
			all = tags(r.Types, n.Type)
		case r.of[i] == "any":
			all = r.asked(i)
		case n.Kind == api.NodeCall || n.Kind == api.NodeGet || n.Kind == api.NodeAt:
			all = textTags(r.of[i])
		}
		if all != api.TagsAll {
			list = append(list, api.Guard{Node: i, Tags: all})
		}
	}
	return list
}

// G1: drawn programs, against the words of the document.
func TestDrawn(t *testing.T) {
	w := &writer{draw: 1}
	seen := map[string]int{}
	for range 4000 {
		w.names, w.made, w.result = []string{"x", "y"}, 0, nil
		s := "let x: any = 1; let y: any = null; let f: any = x; " + w.statements(3)
		if _, fault := check.Types(s); fault.Err != api.OK {
			if fault.Err == api.ErrMany || fault.Err == api.ErrDeep {
				continue
			}
			t.Fatalf("Types(%q): %v", s, fault)
		}
		r := newReader(s)
		want := r.guards()
		if got, fault := Guards(s); !slices.Equal(got, want) || fault != (api.Fault{}) {
			t.Fatalf("Guards(%q): %v %v, and must be %v", s, got, fault, want)
		}
		for _, g := range want {
			seen[kind(r.Nodes[g.Node])]++
			seen[fmt.Sprint("in ", r.Nodes[r.around[g.Node]].Kind)]++
			seen[words(g.Tags)]++
		}
	}
	for _, key := range []string{"param", "var", "call", "get", "at", "two", "as", "in 7", "in 14", "in 17", "in 18", "in 19", "in 20", "in 24", "num", "bool", "text", "null", "object", "array", "function", "num|text"} {
		if seen[key] < 20 {
			t.Errorf("too few of a kind: %q: %v", key, seen)
		}
	}
}

package tree

import (
	"fmt"
	"slices"
	"strings"
	"testing"

	"guardrail/api"
)

// say writes a node with its parts: its kind and place, and what it has, in the order of the text.
func say(p api.Program, i int) string {
	n := p.Nodes[i]
	words := []string{kindName(n.Kind) + "@" + fmt.Sprint(n.At)}
	if n.Text != "" {
		words = append(words, n.Text)
	}
	if n.Kind == api.NodeNum || n.Kind == api.NodeBool {
		words = append(words, fmt.Sprint(n.N))
	}
	if n.Type >= 0 && n.Kind != api.NodeAs && n.Kind != api.NodeFunc {
		words = append(words, sayType(p.Types, n.Type))
	}
	for _, k := range parts(n) {
		words = append(words, say(p, k))
	}
	if n.Type >= 0 && (n.Kind == api.NodeAs || n.Kind == api.NodeFunc) {
		words = append(words, sayType(p.Types, n.Type))
	}
	return "(" + strings.Join(words, " ") + ")"
}

func kindName(kind int) string {
	return strings.Fields("? num txt bool null var fn call get at obj arr two one as part param let set put lay print if while return do block")[kind]
}

// parts of a node, in the order of the text.
func parts(n api.Node) []int {
	switch n.Kind {
	case api.NodeFunc:
		return append(append([]int{}, n.List...), n.A)
	case api.NodeCall:
		return append([]int{n.A}, n.List...)
	case api.NodeObject, api.NodeArray, api.NodeBlock:
		return n.List
	case api.NodeGet, api.NodeOne, api.NodeAs, api.NodePart, api.NodeLet, api.NodeSet, api.NodePrint, api.NodeReturn, api.NodeDo:
		return []int{n.A}
	case api.NodeAt, api.NodeTwo, api.NodePut, api.NodeWhile:
		return []int{n.A, n.B}
	case api.NodeIf:
		if n.C < 0 {
			return []int{n.A, n.B}
		}
		return []int{n.A, n.B, n.C}
	case api.NodeLay:
		return []int{n.A, n.B, n.C}
	}
	return nil
}

// sayType writes a type with all its brackets.
func sayType(types []api.Type, i int) string {
	t := types[i]
	var words []string
	switch t.Kind {
	case api.TypeObject:
		for _, f := range t.Fields {
			words = append(words, f.Name+":"+sayType(types, f.Type))
		}
		return "{" + strings.Join(words, " ") + "}"
	case api.TypeArray:
		return "[" + sayType(types, t.Of) + "]"
	}
	for _, k := range t.List {
		words = append(words, sayType(types, k))
	}
	switch t.Kind {
	case api.TypeFunc:
		return "<" + strings.Join(words, " ") + ">" + sayType(types, t.Of)
	case api.TypeUnion:
		return "(" + strings.Join(words, "|") + ")"
	}
	return strings.Fields("? num bool text null any unknown")[t.Kind]
}

// wantProgram holds a program's statements against a text, and the program against B4.
func wantProgram(t *testing.T, s string, want ...string) {
	t.Helper()
	p, fault := Parse(s)
	if fault != (api.Fault{}) {
		t.Errorf("Parse(%.80q): %v", s, fault)
		return
	}
	wantNumbers(t, s, p)
	var got []string
	for _, i := range p.Nodes[p.Main].List {
		got = append(got, say(p, i))
	}
	if g, w := strings.Join(got, "\n"), strings.Join(want, "\n"); g != w {
		t.Errorf("Parse(%.80q) is\n%s\nand must be\n%s", s, g, w)
	}
}

// wantFault: the mark ^ in s, which is taken out, is where the fault must be.
func wantFault(t *testing.T, err api.Errno, texts ...string) {
	t.Helper()
	for _, marked := range texts {
		s, want := unmark(marked, err)
		p, fault := Parse(s)
		if fault != want {
			t.Errorf("Parse(%.80q): %v, want %v", s, fault, want)
		}
		if p.Nodes != nil || p.Types != nil || p.Main != 0 {
			t.Errorf("Parse(%.80q) answers a program beside its fault", s)
		}
	}
}

func unmark(marked string, err api.Errno) (string, api.Fault) {
	ahead, behind, _ := strings.Cut(marked, "^")
	return ahead + behind, api.Fault{Err: err, At: len(ahead)}
}

func wantType(t *testing.T, s, want string) {
	t.Helper()
	types, fault := Type(s)
	if fault != (api.Fault{}) || len(types) == 0 {
		t.Errorf("Type(%.80q): %v %v", s, types, fault)
		return
	}
	wantTypeNumbers(t, s, types, []int{len(types) - 1})
	if got := sayType(types, len(types)-1); got != want {
		t.Errorf("Type(%.80q) is %s, and must be %s", s, got, want)
	}
}

func wantTypeFault(t *testing.T, err api.Errno, texts ...string) {
	t.Helper()
	for _, marked := range texts {
		s, want := unmark(marked, err)
		types, fault := Type(s)
		if fault != want || types != nil {
			t.Errorf("Type(%.80q): %v %v, want %v and no types", s, types, fault, want)
		}
	}
}

// wantNumbers: B4: nodes are numbered as they end, and have nothing but what their kind has.
func wantNumbers(t *testing.T, s string, p api.Program) {
	t.Helper()
	if p.Main != len(p.Nodes)-1 || p.Nodes[p.Main].Kind != api.NodeBlock || p.Nodes[p.Main].At != 0 {
		t.Errorf("%.80q: the last node is not the block of all: %v", s, p)
		return
	}
	next := 0
	var heads []int
	var walk func(i int)
	walk = func(i int) {
		for _, k := range parts(p.Nodes[i]) {
			walk(k)
		}
		if i != next {
			t.Errorf("%.80q: node %d ends as number %d", s, i, next)
		}
		next++
		if p.Nodes[i].Type >= 0 {
			heads = append(heads, p.Nodes[i].Type)
		}
		wantFields(t, s, p.Nodes[i])
	}
	walk(p.Main)
	if next != len(p.Nodes) {
		t.Errorf("%.80q: %d nodes, %d are of the program", s, len(p.Nodes), next)
	}
	slices.Sort(heads)
	wantTypeNumbers(t, s, p.Types, heads)
}

// wantFields: what api does not name for a kind is 0, and a type that is none -1.
func wantFields(t *testing.T, s string, n api.Node) {
	t.Helper()
	has := map[int]string{
		api.NodeNum: "N", api.NodeText: "Text", api.NodeBool: "N", api.NodeNull: "", api.NodeVar: "Text", api.NodeFunc: "List Type A",
		api.NodeCall: "A List", api.NodeGet: "A Text", api.NodeAt: "A B", api.NodeObject: "List", api.NodeArray: "List",
		api.NodeTwo: "Text A B", api.NodeOne: "Text A", api.NodeAs: "A Type", api.NodePart: "Text A", api.NodeParam: "Text Type",
		api.NodeLet: "Text Type A", api.NodeSet: "Text A", api.NodePut: "A Text B", api.NodeLay: "A B C", api.NodePrint: "A",
		api.NodeIf: "A B C", api.NodeWhile: "A B", api.NodeReturn: "A", api.NodeDo: "A", api.NodeBlock: "List",
	}[n.Kind]
	fields := strings.Fields(has)
	empty := map[string]bool{
		"A": n.A == 0, "B": n.B == 0, "C": n.C == 0, "List": len(n.List) == 0, "Text": n.Text == "", "N": n.N == 0, "Type": n.Type == -1,
	}
	for field, is := range empty {
		if !is && !slices.Contains(fields, field) {
			t.Errorf("%.80q: %s of %v", s, field, n)
		}
	}
	if n.Type < -1 || n.Kind == api.NodeAs && n.Type < 0 {
		t.Errorf("%.80q: the type of %v", s, n)
	}
}

// wantTypeNumbers: B4: types are numbered as they end; the heads are those that are in no other, rising.
func wantTypeNumbers(t *testing.T, s string, types []api.Type, heads []int) {
	t.Helper()
	next := 0
	var walk func(i int)
	walk = func(i int) {
		x := types[i]
		for _, f := range x.Fields {
			walk(f.Type)
		}
		for _, k := range x.List {
			walk(k)
		}
		if x.Kind == api.TypeArray || x.Kind == api.TypeFunc {
			walk(x.Of)
		} else if x.Of != 0 {
			t.Errorf("%.80q: Of of %v", s, x)
		}
		if len(x.Fields) > 0 && x.Kind != api.TypeObject || len(x.List) > 0 && x.Kind < api.TypeFunc {
			t.Errorf("%.80q: the lists of %v", s, x)
		}
		if i != next {
			t.Errorf("%.80q: type %d ends as number %d", s, i, next)
		}
		next++
	}
	for _, i := range heads {
		walk(i)
	}
	if next != len(types) {
		t.Errorf("%.80q: %d types, %d are of the text", s, len(types), next)
	}
}

// P3: the same text gets the same answer, whatever was done with an earlier one.
func TestAnswerIsNew(t *testing.T) {
	const s = "let f: (num, text) => any = fn(a, b) { f(1, 2); };"
	want := fmt.Sprint(Parse(s))
	p, _ := Parse(s)
	clear(p.Nodes[:cap(p.Nodes)])
	clear(p.Types[:cap(p.Types)])
	if got := fmt.Sprint(Parse(s)); got != want {
		t.Errorf("the next answer is %s, want %s", got, want)
	}
}

// P2: no two lists of an answer share memory, nor their spare room.
func TestListsAreApart(t *testing.T) {
	p, _ := Parse("let f: (num, text, any) => { a: num; b: [any | null | num]; c: {}; } = fn(a, b, c) { f(1, 2, 3); [1, 2, 3]; { x: 1, y: 2, z: 3 }; }; if (1) { 1; 2; 3; }")
	var lists [][]int
	for _, n := range p.Nodes {
		lists = append(lists, n.List)
	}
	for _, x := range p.Types {
		lists = append(lists, x.List)
	}
	for i, list := range lists {
		for k := range list[:cap(list)] {
			list[:cap(list)][k] = i
		}
	}
	for i, list := range lists {
		for _, k := range list[:cap(list)] {
			if k != i {
				t.Errorf("lists %d and %d share memory", i, k)
			}
		}
	}
}

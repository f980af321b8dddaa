package check

import (
	"reflect"
	"strings"
	"testing"

	"guardrail/api"
	"guardrail/bind"
	"guardrail/nodes"
	"guardrail/show"
	"guardrail/tree"
	"guardrail/types"
)

// judge answers by the words of the chapter: types are texts, held against each other by the calls of chapter 4.
type judge struct {
	api.Program
	names map[int]int
	of    map[int]string
	fault api.Fault
}

func (j *judge) fail(err api.Errno, i int) {
	if j.fault.Err == api.OK {
		j.fault = api.Fault{Err: err, At: j.Nodes[i].At}
	}
}

// written answers a type of a list as a text.
func written(list []api.Type, i int) string {
	t := list[i]
	var words []string
	for _, k := range t.List {
		words = append(words, "("+written(list, k)+")")
	}
	for _, f := range t.Fields {
		words = append(words, f.Name+": "+written(list, f.Type)+";")
	}
	switch t.Kind {
	case api.TypeObject:
		return anew("{" + strings.Join(words, " ") + "}")
	case api.TypeArray:
		return anew("[" + written(list, t.Of) + "]")
	case api.TypeFunc:
		return anew("(" + strings.Join(words, ", ") + ") => " + written(list, t.Of))
	case api.TypeUnion:
		return anew(strings.Join(words, "|"))
	}
	return strings.Fields("? num bool text null any unknown")[t.Kind]
}

// anew is the text as it must be written; of what is too much for a text, "".
func anew(s string) string {
	s, _ = show.Type(s)
	return s
}

// apart answers the type of an expression by its parts, and the texts of these.
func (j *judge) apart(i int) (api.Type, func(k int) string) {
	list, _ := tree.Type(j.of[i])
	return list[len(list)-1], func(k int) string { return written(list, k) }
}

func (j *judge) mustFit(i int, a, b string) {
	if ok, fault := types.Fits(a, b); !ok || fault.Err != api.OK {
		j.fail(api.ErrType, i)
	}
}

func (j *judge) typeOr(i int, other string) string {
	if i < 0 {
		return other
	}
	return written(j.Types, i)
}

func (j *judge) has(i int) string {
	n := j.Nodes[i]
	if n.Kind == api.NodeParam {
		return j.typeOr(n.Type, "any")
	}
	if n.Type < 0 && j.Nodes[n.A].Kind == api.NodeFunc {
		return j.function(n.A)
	}
	return j.typeOr(n.Type, j.of[n.A])
}

func (j *judge) function(i int) string {
	var params []string
	for _, k := range j.Nodes[i].List {
		params = append(params, j.has(k))
	}
	return anew("(" + strings.Join(params, ", ") + ") => " + j.typeOr(j.Nodes[i].Type, "any"))
}

func (j *judge) call(i int) string {
	t, text := j.apart(j.Nodes[i].A)
	if t.Kind == api.TypeAny {
		return "any"
	}
	if t.Kind != api.TypeFunc || len(t.List) != len(j.Nodes[i].List) {
		j.fail(api.ErrType, i)
		return ""
	}
	for k, part := range j.Nodes[i].List {
		j.mustFit(i, j.of[part], text(t.List[k]))
	}
	return text(t.Of)
}

func (j *judge) field(i int) string {
	t, text := j.apart(j.Nodes[i].A)
	for _, f := range t.Fields {
		if f.Name == j.Nodes[i].Text {
			return text(f.Type)
		}
	}
	switch {
	case t.Kind == api.TypeAny:
		return "any"
	case t.Kind == api.TypeArray && j.Nodes[i].Text == "length":
		return "num"
	}
	j.fail(api.ErrType, i)
	return ""
}

func (j *judge) place(i int) string {
	t, text := j.apart(j.Nodes[i].A)
	j.mustFit(i, j.of[j.Nodes[i].B], "num")
	switch t.Kind {
	case api.TypeAny:
		return "any"
	case api.TypeArray:
		return text(t.Of)
	}
	j.fail(api.ErrType, i)
	return ""
}

func (j *judge) array(n api.Node) string {
	var within []string
	for _, k := range n.List {
		within = append(within, j.of[k])
	}
	union, fault := types.Union(within)
	if fault.Err != api.OK {
		panic(fault)
	}
	return anew("[" + union + "]")
}

func (j *judge) object(n api.Node) string {
	s := "{"
	for _, k := range n.List {
		s += j.Nodes[k].Text + ":" + j.of[j.Nodes[k].A] + ";"
	}
	return anew(s + "}")
}

func (j *judge) signs(i int, n api.Node) string {
	a, b := j.of[n.A], "num"
	if n.Kind == api.NodeTwo {
		b = j.of[n.B]
	}
	want := two(n.Text, a, b)
	switch {
	case n.Text == "!":
		return "bool"
	case n.Text == "typeof":
		return "text"
	case want == "":
		j.fail(api.ErrType, i)
	}
	return want
}

func (j *judge) expression(i int) string {
	switch n := j.Nodes[i]; n.Kind {
	case api.NodeVar:
		return j.has(j.names[i])
	case api.NodeFunc:
		return j.function(i)
	case api.NodeCall:
		return j.call(i)
	case api.NodeGet:
		return j.field(i)
	case api.NodeAt:
		return j.place(i)
	case api.NodeObject:
		return j.object(n)
	case api.NodeArray:
		return j.array(n)
	case api.NodeTwo, api.NodeOne:
		return j.signs(i, n)
	case api.NodeAs:
		return written(j.Types, n.Type)
	default:
		return strings.Fields("? num text bool null")[n.Kind]
	}
}

func (j *judge) statement(i int) {
	switch n := j.Nodes[i]; n.Kind {
	case api.NodeLet:
		j.mustFit(i, j.of[n.A], j.has(i))
	case api.NodeSet:
		j.mustFit(i, j.of[n.A], j.has(j.names[i]))
	case api.NodePut:
		j.mustFit(i, j.of[n.B], j.field(i))
	case api.NodeLay:
		j.mustFit(i, j.of[n.C], j.place(i))
	case api.NodeReturn:
		j.leave(i, n)
	}
}

func (j *judge) leave(i int, n api.Node) {
	for k := i + 1; k < len(j.Nodes); k++ {
		if f := j.Nodes[k]; f.Kind == api.NodeFunc && f.At < n.At { // it ends behind, and begins ahead
			j.mustFit(i, j.of[n.A], j.typeOr(f.Type, "any"))
			return
		}
	}
	j.fail(api.ErrState, i)
}

// answers of a program; false, if a type is too much for a text.
func answers(s string) ([]api.Typed, api.Fault, bool) {
	names, fault := bind.Names(s)
	if fault.Err != api.OK {
		return nil, fault, true
	}
	j := &judge{names: map[int]int{}, of: map[int]string{}}
	j.Program, _ = tree.Parse(s)
	for _, b := range names {
		j.names[b.Node] = b.To
	}
	var all []api.Typed
	for i, n := range j.Nodes {
		if !nodes.IsExpression(n) {
			j.statement(i)
		} else {
			j.of[i] = j.expression(i)
			all = append(all, api.Typed{Node: i, Type: j.of[i]})
		}
		if j.fault.Err != api.OK {
			return nil, j.fault, true
		}
		if nodes.IsExpression(n) && j.of[i] == "" {
			return nil, api.Fault{}, false
		}
	}
	return all, api.Fault{}, true
}

// F1 to F4: drawn programs, against the words of the document.
func TestDrawn(t *testing.T) {
	w := &writer{draw: 1}
	seen := map[api.Errno]int{}
	kinds := map[string]int{}
	for range 4000 {
		s := w.program()
		want, fault, ok := answers(s)
		if !ok {
			continue
		}
		seen[fault.Err]++
		got, why := Types(s)
		if why != fault || len(got) != len(want) || len(got) > 0 && !reflect.DeepEqual(got, want) {
			t.Fatalf("Types(%q): %v %v, and must be %v %v", s, got, why, want, fault)
		}
		for _, x := range got {
			kinds[x.Type[:1]]++
		}
	}
	if min(seen[api.OK], seen[api.ErrType]) < 400 || seen[api.ErrState] < 50 {
		t.Errorf("too few of a kind: %v", seen)
	}
	if len(kinds) < 7 {
		t.Errorf("too few types: %v", kinds)
	}
}

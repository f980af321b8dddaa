package elide

import (
	"fmt"
	"slices"
	"strings"
	"testing"

	"guardrail/api"
	"guardrail/bind"
	"guardrail/place"
	"guardrail/tree"
)

// machine runs programs with guards, as far as H3 needs it: how chapter 9 says that they run, but that numbers are not taken over, and nothing is counted but steps and calls.
type machine struct {
	api.Program
	names, guards map[int]int
	steps, calls  int
	lines         []string
	events        []api.Event
}

type scope struct {
	own   map[int]any // by lets and params
	outer *scope
}

type object struct{ parts map[string]any }

type array struct{ list []any }

type closure struct {
	node   int
	around *scope
}

// ending is what a run that is over gives up with; returned what a function's block does.
type ending struct{ end, node int }

type returned struct{ value any }

const maxSteps = 2000

// run a program with these guards: what was printed, what guards let through, and how it ended.
func run(s string, guards []api.Guard) (m *machine, how ending) {
	m = &machine{names: map[int]int{}, guards: map[int]int{}}
	m.Program, _ = tree.Parse(s)
	names, _ := bind.Names(s)
	for _, b := range names {
		m.names[b.Node] = b.To
	}
	for _, g := range guards {
		m.guards[g.Node] = g.Tags
	}
	defer func() {
		if r := recover(); r != nil {
			how = r.(ending)
		}
	}()
	m.block(m.Main, nil)
	return m, ending{api.EndDone, -1}
}

// tag of a value, and what typeof says of it.
func tag(v any) (int, string) {
	switch v.(type) {
	case int:
		return api.TagNum, "num"
	case bool:
		return api.TagBool, "bool"
	case string:
		return api.TagText, "text"
	case *object:
		return api.TagObject, "object"
	case *array:
		return api.TagArray, "array"
	case *closure:
		return api.TagFunc, "function"
	}
	return api.TagNull, "null"
}

func (m *machine) find(i int, around *scope) *scope {
	for {
		if _, ok := around.own[m.names[i]]; ok {
			return around
		}
		around = around.outer
	}
}

func (m *machine) step() {
	m.steps++
	if m.steps > maxSteps {
		panic(ending{api.EndFuel, -1})
	}
}

// guarded looks at what a node yielded.
func (m *machine) guarded(i int, v any) any {
	if tags, ok := m.guards[i]; ok {
		own, _ := tag(v)
		if own&tags == 0 {
			panic(ending{api.EndGuard, i})
		}
		m.events = append(m.events, api.Event{Node: i, Tag: own})
	}
	return v
}

func (m *machine) block(i int, around *scope) {
	own := &scope{map[int]any{}, around}
	for _, k := range m.Nodes[i].List {
		m.step()
		m.statement(k, own)
	}
}

func truth(v any) bool { return v != nil && v != false }

func (m *machine) statement(i int, around *scope) {
	n := m.Nodes[i]
	switch n.Kind {
	case api.NodeLet:
		around.own[i] = m.value(n.A, around)
	case api.NodeSet:
		v := m.value(n.A, around)
		m.find(i, around).own[m.names[i]] = v
	case api.NodePrint:
		v := m.value(n.A, around)
		_, word := tag(v)
		m.lines = append(m.lines, word+" "+m.text(v))
	case api.NodeReturn:
		panic(returned{m.value(n.A, around)})
	case api.NodeIf:
		if truth(m.value(n.A, around)) {
			m.block(n.B, around)
		} else if n.C >= 0 {
			m.block(n.C, around)
		}
	case api.NodeWhile:
		for truth(m.value(n.A, around)) {
			m.block(n.B, around)
		}
	default:
		m.value(n.A, around)
	}
}

func (m *machine) text(v any) string {
	if own, word := tag(v); own > api.TagNull {
		return word
	}
	return fmt.Sprint(v)
}

func (m *machine) value(i int, around *scope) any {
	m.step()
	return m.guarded(i, m.expression(i, around))
}

func (m *machine) expression(i int, around *scope) any {
	n := m.Nodes[i]
	switch n.Kind {
	case api.NodeNum:
		return n.N
	case api.NodeText:
		return n.Text
	case api.NodeBool:
		return n.N == 1
	case api.NodeVar:
		return m.find(i, around).own[m.names[i]]
	case api.NodeFunc:
		return &closure{i, around}
	case api.NodeCall:
		return m.call(i, around)
	case api.NodeGet:
		if o, ok := m.value(n.A, around).(*object); ok {
			return o.parts[n.Text]
		}
		panic(ending{api.EndWrong, i})
	case api.NodeObject:
		o := &object{map[string]any{}}
		for _, k := range n.List {
			o.parts[m.Nodes[k].Text] = m.value(m.Nodes[k].A, around)
		}
		return o
	case api.NodeArray:
		a := &array{}
		for _, k := range n.List {
			a.list = append(a.list, m.value(k, around))
		}
		return a
	case api.NodeAs:
		return m.value(n.A, around)
	case api.NodeOne:
		return m.one(i, m.value(n.A, around))
	case api.NodeTwo:
		a := m.value(n.A, around)
		return m.two(i, a, m.value(n.B, around))
	}
	return nil
}

func (m *machine) one(i int, v any) any {
	switch m.Nodes[i].Text {
	case "!":
		return !truth(v)
	case "typeof":
		_, word := tag(v)
		return word
	}
	return -m.number(i, v)
}

func (m *machine) number(i int, v any) int {
	if x, ok := v.(int); ok {
		return x
	}
	panic(ending{api.EndWrong, i})
}

func (m *machine) two(i int, a, b any) any {
	sign := m.Nodes[i].Text
	if sign == "==" {
		return a == b
	}
	if s, ok := a.(string); ok && sign == "+" {
		if t, ok := b.(string); ok {
			return s + t
		}
	}
	x, y := m.number(i, a), m.number(i, b)
	switch sign {
	case "+":
		return x + y
	case "-":
		return x - y
	case "*":
		return x * y
	}
	return x < y
}

func (m *machine) call(i int, around *scope) (v any) {
	n := m.Nodes[i]
	f, ok := m.value(n.A, around).(*closure)
	var handed []any
	for _, k := range n.List {
		handed = append(handed, m.value(k, around))
	}
	if !ok {
		panic(ending{api.EndWrong, i})
	}
	if m.calls == api.MaxCalls {
		panic(ending{api.EndDeep, i})
	}
	m.calls++
	defer func() {
		m.calls--
		switch r := recover().(type) {
		case nil:
		case returned:
			v = r.value
		default:
			panic(r)
		}
	}()
	m.enter(f, handed)
	return nil
}

// enter a function: its params are guarded ahead of its block.
func (m *machine) enter(f *closure, handed []any) {
	n := m.Nodes[f.node]
	own := &scope{map[int]any{}, f.around}
	handed = append(handed, make([]any, len(n.List))...)
	for k, param := range n.List {
		own.own[param] = m.guarded(param, handed[k])
	}
	m.block(n.A, own)
}

// sameRuns: a run with the guards that are left goes as one with all of them; how it ends, and how many looks less it takes.
func sameRuns(t *testing.T, s string) (end, less int) {
	t.Helper()
	all, _ := place.Guards(s)
	left, fault := Guards(s)
	if fault.Err != api.OK {
		t.Fatalf("Guards(%q): %v", s, fault)
	}
	a, how := run(s, all)
	b, why := run(s, left)
	events := slices.DeleteFunc(slices.Clone(a.events), func(e api.Event) bool {
		return !slices.ContainsFunc(left, func(g api.Guard) bool { return g.Node == e.Node })
	})
	if how != why || !slices.Equal(a.lines, b.lines) || !slices.Equal(events, b.events) {
		t.Fatalf("%s\nwith all %v it ends %v, with %v %v", s, all, how, left, why)
	}
	return how.end, len(a.events) - len(b.events)
}

// H3: runs in which a guard fails that must be left, as another value comes there than the one that was looked at.
func TestRunsThatFail(t *testing.T) {
	for _, s := range []string{
		"let a: any = 1; let f = fn() { g(a); }; g(a); f(); a = true; f();",
		"let a: any = 1; let f = fn() { a = true; }; g(a); f(); g(a);",
		"let a: any = 1; let f = fn(c) { fn() { c = true; }(); g(c); }; f(1);",
		"let a: any = 1; let f = fn() { a = true; }; f(); let c: any = a; g(c);",
		"let a: any = 1; let i = 0; while (i < 2) { g(a); a = true; i = i + 1; }",
		"let a: any = 1; let i = 0; while (g(a) == null) { a = true; }",
		"let a: any = 1; let c: any = 1; let i = 0; while (i < 3) { g(c); c = a; a = true; i = i + 1; }",
		"let a: any = true; while (false) { g(a); } g(a);",
		"let a: any = 1; if (true) { a = true; } g(a);",
		"let a: any = 1; if (true) { a = true; } else { g(a); } g(a);",
		"let a: any = true; if (false) { g(a); } g(a);",
		"let a: any = true; if (false) {} else { print 1; } g(a);",
		"let a: any = true; let f = fn() { g(a); }; g(a);",
		"let a: any = \"a\" + \"b\"; g(a);",
		"let f = fn(c) { g(c); }; f(1); f(true);",
		"let a: any = 1; g(a); a = { p: true }.p as any; g(a);",
		"let a: any = 1; b(a); a = \"\"; b(a); g(a);",
		"let a: any = 1; g(a); if (true) { let a: any = true; g(a); }",
	} {
		if end, _ := sameRuns(t, strings.ReplaceAll(ask, "^", "")+s); end != api.EndGuard {
			t.Errorf("%s: it ends %d", s, end)
		}
	}
}

// H3: drawn programs.
func TestRuns(t *testing.T) {
	w := &writer{draw: 2}
	ends, gone := map[int]int{}, 0
	for range 3000 {
		s := w.program()
		if _, fault := place.Guards(s); fault.Err == api.ErrMany {
			continue
		}
		end, less := sameRuns(t, s)
		ends[end]++
		gone += less
	}
	if min(ends[api.EndDone], ends[api.EndGuard]) < 500 || gone < 2000 {
		t.Errorf("too few of a kind: %v; %d looks less", ends, gone)
	}
}

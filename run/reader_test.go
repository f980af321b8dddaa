package run

import (
	"fmt"

	"guardrail/api"
	"guardrail/bind"
	"guardrail/tree"
)

// reader runs programs by the words of the document: in steps that answer whether the run goes on, with values of Go, and with names in cells that a function copies when it is made.
type reader struct {
	api.Program
	names, guards map[int]int
	fuel          int
	calls, things int
	back          any // what is returned
	out           api.Outcome
}

// cells by lets and params.
type cells map[int]*any

type object map[string]any

type array struct{ list []any }

type closure struct {
	api.Node
	around cells
}

// How a step went.
const (
	goesOn = iota
	returns
	isOver
)

// readRun runs a program that has no fault, with these guards.
func readRun(s string, guards []api.Guard, fuel int) api.Outcome {
	r := &reader{names: map[int]int{}, guards: map[int]int{}, fuel: fuel}
	r.Program, _ = tree.Parse(s)
	names, _ := bind.Names(s)
	for _, b := range names {
		r.names[b.Node] = b.To
	}
	for _, g := range guards {
		r.guards[g.Node] = g.Tags
	}
	if r.block(r.Main, cells{}) == goesOn {
		r.end(api.EndDone, -1)
	}
	return r.out
}

func (r *reader) end(end, node int) bool {
	r.out.End, r.out.Node = end, node
	return false
}

// pays what a step costs.
func (r *reader) pays() bool {
	r.fuel--
	return r.fuel >= 0 || r.end(api.EndFuel, -1)
}

// makes one more thing.
func (r *reader) makes(i int) bool {
	r.things++
	return r.things <= api.MaxThings || r.end(api.EndHeap, i)
}

// tag of a value, and what typeof says of it.
func tag(v any) (int, string) {
	switch v.(type) {
	case int32:
		return 1, "num"
	case bool:
		return 2, "bool"
	case string:
		return 4, "text"
	case *object:
		return 16, "object"
	case *array:
		return 32, "array"
	case *closure:
		return 64, "function"
	}
	return 8, "null"
}

// looks at what a node yielded, if it has a guard.
func (r *reader) looks(i int, v any) bool {
	tags, is := r.guards[i]
	own, _ := tag(v)
	switch {
	case !is:
		return true
	case own&tags == 0:
		return r.end(api.EndGuard, i)
	}
	r.out.Events = append(r.out.Events, api.Event{Node: i, Tag: own})
	return true
}

// copied, so that what is let from here on is not seen by others.
func (c cells) copied() cells {
	list := cells{}
	for k, cell := range c {
		list[k] = cell
	}
	return list
}

func (r *reader) block(i int, around cells) int {
	own := around.copied()
	for _, k := range r.Nodes[i].List {
		if how := r.statement(k, own); how != goesOn {
			return how
		}
	}
	return goesOn
}

func holds(v any) bool { return v != nil && v != false }

// parts: the values of these expressions, as long as it goes on.
func (r *reader) parts(around cells, list ...int) ([]any, bool) {
	var all []any
	for _, i := range list {
		v, ok := r.value(i, around)
		if !ok {
			return nil, false
		}
		all = append(all, v)
	}
	return all, true
}

func (r *reader) statement(i int, own cells) int {
	n := r.Nodes[i]
	if !r.pays() {
		return isOver
	}
	list := []int{n.A}
	switch n.Kind {
	case api.NodePut:
		list = []int{n.A, n.B}
	case api.NodeLay:
		list = []int{n.A, n.B, n.C}
	case api.NodeLet:
		if r.Nodes[n.A].Kind == api.NodeFunc {
			own[i] = new(any) // so that the function has it
		}
	}
	v, ok := r.parts(own, list...)
	if !ok {
		return isOver
	}
	return r.does(i, own, v)
}

// does what a statement does with the values of its parts.
func (r *reader) does(i int, own cells, v []any) int {
	n := r.Nodes[i]
	ok := true
	switch n.Kind {
	case api.NodeLet:
		if own[i] == nil {
			own[i] = new(any)
		}
		*own[i] = v[0]
	case api.NodeSet:
		*own[r.names[i]] = v[0]
	case api.NodePut:
		ok = r.puts(i, v[0], v[1])
	case api.NodeLay:
		ok = r.lays(i, v[0], v[1], v[2])
	case api.NodePrint:
		r.prints(v[0])
	case api.NodeReturn:
		r.back = v[0]
		return returns
	case api.NodeIf:
		if holds(v[0]) {
			return r.block(n.B, own)
		} else if n.C >= 0 {
			return r.block(n.C, own)
		}
	case api.NodeWhile:
		return r.loop(n, own, v[0])
	}
	if !ok {
		return isOver
	}
	return goesOn
}

func (r *reader) loop(n api.Node, own cells, v any) int {
	for holds(v) {
		if how := r.block(n.B, own); how != goesOn {
			return how
		}
		var ok bool
		if v, ok = r.value(n.A, own); !ok {
			return isOver
		}
	}
	return goesOn
}

func (r *reader) prints(v any) {
	line := fmt.Sprint(v)
	if own, word := tag(v); own >= 8 {
		line = word
	}
	r.out.Lines = append(r.out.Lines, line)
}

func (r *reader) puts(i int, to, v any) bool {
	o, ok := to.(*object)
	if ok {
		(*o)[r.Nodes[i].Text] = v
	}
	return ok || r.end(api.EndWrong, i)
}

func (r *reader) lays(i int, to, at, v any) bool {
	a, ok := to.(*array)
	k, is := at.(int32)
	switch {
	case !ok || !is || k < 0 || int(k) > len(a.list):
		return r.end(api.EndWrong, i)
	case int(k) == len(a.list):
		if !r.makes(i) {
			return false
		}
		a.list = append(a.list, nil)
	}
	a.list[k] = v
	return true
}

// value of an expression, and whether it goes on.
func (r *reader) value(i int, own cells) (any, bool) {
	if !r.pays() {
		return nil, false
	}
	n := r.Nodes[i]
	var list []int
	switch n.Kind {
	case api.NodeCall:
		list = append([]int{n.A}, n.List...)
	case api.NodeGet, api.NodeOne, api.NodeAs:
		list = []int{n.A}
	case api.NodeAt, api.NodeTwo:
		list = []int{n.A, n.B}
	case api.NodeArray:
		list = n.List
	case api.NodeObject:
		for _, k := range n.List {
			list = append(list, r.Nodes[k].A)
		}
	}
	v, ok := r.parts(own, list...)
	if !ok {
		return nil, false
	}
	out, ok := r.yields(i, own, v)
	return out, ok && r.looks(i, out)
}

// yields what an expression does of the values of its parts.
func (r *reader) yields(i int, own cells, v []any) (any, bool) {
	n := r.Nodes[i]
	switch n.Kind {
	case api.NodeNum:
		return int32(n.N), true
	case api.NodeText:
		return n.Text, true
	case api.NodeBool:
		return n.N == 1, true
	case api.NodeVar:
		return *own[r.names[i]], true
	case api.NodeFunc:
		return &closure{n, own.copied()}, r.makes(i)
	case api.NodeCall:
		return r.calling(i, v[0], v[1:])
	case api.NodeObject:
		o := object{}
		for k, part := range n.List {
			o[r.Nodes[part].Text] = v[k]
		}
		return &o, r.makes(i)
	case api.NodeArray:
		return &array{v}, r.makes(i)
	case api.NodeAs:
		return v[0], true
	case api.NodeGet:
		return r.part(i, v[0])
	case api.NodeAt:
		return r.at(i, v[0], v[1])
	case api.NodeOne:
		return r.one(i, v[0])
	case api.NodeTwo:
		return r.two(i, v[0], v[1])
	}
	return nil, true
}

func (r *reader) part(i int, v any) (any, bool) {
	name := r.Nodes[i].Text
	if o, ok := v.(*object); ok {
		return (*o)[name], true
	}
	if a, ok := v.(*array); ok && name == "length" {
		return int32(len(a.list)), true
	}
	return nil, r.end(api.EndWrong, i)
}

func (r *reader) at(i int, v, place any) (any, bool) {
	a, ok := v.(*array)
	k, is := place.(int32)
	switch {
	case !ok || !is:
		return nil, r.end(api.EndWrong, i)
	case k < 0 || int(k) >= len(a.list):
		return nil, true
	}
	return a.list[k], true
}

func (r *reader) one(i int, v any) (any, bool) {
	switch r.Nodes[i].Text {
	case "!":
		return !holds(v), true
	case "typeof":
		_, word := tag(v)
		return word, true
	}
	if x, ok := v.(int32); ok {
		return wrapped(-int64(x)), true
	}
	return nil, r.end(api.EndWrong, i)
}

// wrapped: taken over 2 to the power of 32.
func wrapped(x int64) int32 {
	x %= 1 << 32
	if x >= 1<<31 {
		x -= 1 << 32
	} else if x < -1<<31 {
		x += 1 << 32
	}
	return int32(x)
}

func (r *reader) two(i int, a, b any) (any, bool) {
	sign := r.Nodes[i].Text
	if sign == "==" {
		return a == b, true
	}
	s, is := a.(string)
	u, too := b.(string)
	if sign == "+" && is && too {
		return fmt.Sprintf("%.*s", api.MaxLine, s+u), true
	}
	x, is := a.(int32)
	y, too := b.(int32)
	if !is || !too {
		return nil, r.end(api.EndWrong, i)
	}
	switch sign {
	case "+":
		return wrapped(int64(x) + int64(y)), true
	case "-":
		return wrapped(int64(x) - int64(y)), true
	case "*":
		return wrapped(int64(x) * int64(y)), true
	}
	return x < y, true
}

func (r *reader) calling(i int, called any, handed []any) (any, bool) {
	f, ok := called.(*closure)
	if !ok {
		return nil, r.end(api.EndWrong, i)
	}
	if r.calls >= api.MaxCalls {
		return nil, r.end(api.EndDeep, i)
	}
	own := f.around.copied()
	for k, param := range f.List {
		own[param] = new(any)
		if k < len(handed) {
			*own[param] = handed[k]
		}
		if !r.looks(param, *own[param]) {
			return nil, false
		}
	}
	r.calls++
	how := r.block(f.A, own)
	r.calls--
	if how == returns {
		return r.back, true
	}
	return nil, how == goesOn
}

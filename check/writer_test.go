package check

import (
	"fmt"
	"strings"
)

// typ is a type as the writer draws it.
type typ struct {
	kind string // a plain type, or {, [, ( or |
	of   []typ  // of a function the result is the last one
}

func (t typ) String() string {
	var words []string
	for _, x := range t.of {
		words = append(words, x.String())
	}
	switch t.kind {
	case "{":
		return "{ a: " + words[0] + "; b: " + words[1] + "; }"
	case "[":
		return "[" + words[0] + "]"
	case "(":
		last := len(words) - 1
		return "((" + strings.Join(words[:last], ", ") + ") => " + words[last] + ")"
	case "|":
		return "(" + strings.Join(words, " | ") + ")"
	}
	return t.kind
}

type known struct {
	name string
	typ  typ
}

// writer writes programs, drawn by numbers that are the same each time; most of what is in them has the type that is asked for there.
type writer struct {
	draw   uint64
	known  []known
	names  int
	result []typ // what the functions around return
}

func (w *writer) below(n int) int {
	w.draw = w.draw*6364136223846793005 + 1442695040888963407
	return int(w.draw >> 33 % uint64(n))
}

func (w *writer) one(of ...string) string { return of[w.below(len(of))] }

func (w *writer) typ(deep int) typ {
	if deep <= 0 || w.below(2) == 0 {
		return typ{kind: w.one("num", "num", "text", "bool", "null", "any", "unknown")}
	}
	a, b := w.typ(deep-1), w.typ(deep-1)
	switch w.below(4) {
	case 0:
		return typ{"{", []typ{a, b}}
	case 1:
		return typ{"[", []typ{a}}
	case 2:
		return typ{"(", []typ{a, b}[w.below(2):]}
	}
	return typ{"|", []typ{a, b}}
}

func (w *writer) program() string {
	w.known, w.names, w.result = nil, 0, nil
	return w.statements(4, 2)
}

func (w *writer) statements(n, deep int) string {
	all := ""
	for range 1 + w.below(n) {
		all += w.statement(deep) + "\n"
	}
	return all
}

// block writes statements; what they let is forgotten behind it.
func (w *writer) block(deep int) string {
	ahead := len(w.known)
	s := "{ " + w.statements(2, deep-1) + "}"
	w.known = w.known[:ahead]
	return s
}

func (w *writer) let(name string, t typ) { w.known = append(w.known, known{name, t}) }

func (w *writer) newName() string {
	w.names++
	return fmt.Sprint("n", w.names)
}

func (w *writer) letStatement(deep int) string {
	name, t := w.newName(), w.typ(2)
	begin := "let " + name + w.one(": "+t.String(), ": "+t.String(), "") + " = "
	if t.kind == "(" { // a function knows its own name
		w.let(name, t)
		return begin + w.function(t, deep) + ";"
	}
	s := begin + w.expression(t, deep) + ";"
	w.let(name, t)
	return s
}

func (w *writer) statement(deep int) string {
	if deep <= 0 {
		return "print " + w.expression(w.typ(1), 1) + ";"
	}
	switch w.below(10) {
	case 0, 1:
		return w.letStatement(deep)
	case 2:
		return w.loop(deep)
	case 3, 4:
		if len(w.known) > 0 {
			k := w.known[w.below(len(w.known))]
			return k.name + " = " + w.expression(k.typ, deep) + ";"
		}
	case 5:
		t := w.typ(1)
		return w.expression(typ{"[", []typ{t}}, 1) + "[" + w.expression(typ{kind: "num"}, 1) + "] = " + w.expression(t, deep) + ";"
	case 6:
		t := w.typ(1)
		return "(" + w.expression(typ{"{", []typ{t, t}}, 1) + ")." + w.one("a", "b") + " = " + w.expression(t, deep) + ";"
	case 7:
		if n := len(w.result); n > 0 {
			return "return " + w.expression(w.result[n-1], deep) + ";"
		}
		if w.below(6) == 0 {
			return "return 1;"
		}
	}
	return "print " + w.expression(w.typ(2), deep) + ";"
}

func (w *writer) loop(deep int) string {
	return w.one("if", "while") + " (" + w.expression(w.typ(1), 1) + ") " + w.block(deep)
}

// expression of something that fits a type; now and then of something else.
func (w *writer) expression(t typ, deep int) string {
	if w.below(60) == 0 {
		t = w.typ(1)
	}
	if s := w.knownAs(t); s != "" && w.below(3) == 0 {
		return s
	}
	if deep > 0 && w.below(3) == 0 {
		return w.tail(t, deep-1)
	}
	of := func(x typ) string { return w.expression(x, deep-1) }
	switch t.kind {
	case "num":
		return w.number(deep)
	case "text":
		return w.one(`"t"`, "typeof "+w.one("1", "null"), `("a" + "b")`)
	case "bool":
		return w.one("true", "false", "!1", "(1 < 2)", "(null == 1)")
	case "null":
		return "null"
	case "{":
		return w.one("{ a: "+of(t.of[0])+", b: "+of(t.of[1])+" }", "{ b: "+of(t.of[1])+", c: 1, a: "+of(t.of[0])+" }")
	case "[":
		return w.one("[]", "["+of(t.of[0])+"]", "["+of(t.of[0])+", "+of(t.of[0])+"]")
	case "(":
		return w.function(t, deep)
	case "|":
		return of(t.of[w.below(2)])
	}
	return w.one("1", "null", "(1 as "+t.kind+")", "(null as "+t.kind+")", "(true as "+t.String()+")")
}

// knownAs answers a name of that type, if one is known.
func (w *writer) knownAs(t typ) string {
	s := ""
	for _, k := range w.known {
		if k.typ.String() == t.String() && (s == "" || w.below(2) == 0) {
			s = k.name
		}
	}
	return s
}

func (w *writer) number(deep int) string {
	num := typ{kind: "num"}
	if deep <= 0 {
		return w.one("1", "23")
	}
	switch w.below(4) {
	case 0:
		return "-" + w.expression(num, deep-1)
	case 1:
		return "(" + w.expression(num, deep-1) + w.one(" + ", " - ", " * ") + w.expression(num, deep-1) + ")"
	case 2:
		return "(" + w.expression(typ{"[", []typ{w.typ(1)}}, deep-1) + ").length"
	}
	return "7"
}

// tail writes something of that type by what stands behind another.
func (w *writer) tail(t typ, deep int) string {
	other := w.typ(1)
	switch w.below(5) {
	case 0:
		return "(" + w.expression(typ{"[", []typ{t}}, deep) + ")[" + w.expression(typ{kind: "num"}, deep) + "]"
	case 1:
		return "(" + w.expression(typ{"{", []typ{t, other}}, deep) + ").a"
	case 2:
		return "(" + w.expression(typ{"(", []typ{other, t}}, deep) + ")(" + w.expression(other, deep) + ")"
	case 3:
		return "(" + w.expression(typ{"(", []typ{t}}, deep) + ")()"
	}
	return "(" + w.expression(other, deep) + " as " + t.String() + ")"
}

func (w *writer) function(t typ, deep int) string {
	ahead, last := len(w.known), len(t.of)-1
	var params []string
	for _, p := range t.of[:last] {
		name := w.newName()
		params = append(params, name+w.one(": "+p.String(), ": "+p.String(), ""))
		w.let(name, p)
	}
	w.result = append(w.result, t.of[last])
	s := "fn(" + strings.Join(params, ", ") + ")" + w.one(": "+t.of[last].String(), "") + " " + w.block(deep)
	w.result = w.result[:len(w.result)-1]
	w.known = w.known[:ahead]
	return s
}

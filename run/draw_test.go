package run

import (
	"fmt"
	"maps"
	"slices"
	"strings"
	"testing"

	"guardrail/api"
	"guardrail/elide"
	"guardrail/place"
)

// writer writes programs that do most of what programs can, and mostly right, drawn by numbers that are the same each time.
type writer struct {
	draw   uint64
	names  map[string][]string // by what they mostly are
	made   int
	inside int // how many functions are around
}

func (w *writer) below(n int) int {
	w.draw = w.draw*6364136223846793005 + 1442695040888963407
	return int(w.draw >> 33 % uint64(n))
}

func (w *writer) one(of ...string) string { return of[w.below(len(of))] }

func (w *writer) name(of string) string { return w.one(w.names[of]...) }

func (w *writer) kind() string {
	return w.one("num", "num", "text", "bool", "object", "array", "function")
}

// newName of a kind; it counts from behind its let on.
func (w *writer) newName() string {
	w.made++
	return fmt.Sprint("v", w.made)
}

func (w *writer) add(of, name string) { w.names[of] = append(slices.Clip(w.names[of]), name) }

func (w *writer) program() string {
	w.names, w.made, w.inside = map[string][]string{}, 0, 0
	s := ""
	for _, of := range []string{"num", "text", "bool", "array", "object", "function"} {
		name := w.newName()
		first := map[string]string{"num": "3", "text": "\"t\"", "bool": "true", "array": "[1, 2, 3]", "object": "{ a: 1, b: \"b\" }", "function": "fn(p: num, q) { return p; }"}[of]
		s += "let " + name + ": any = " + first + "; "
		w.add(of, name)
	}
	return s + w.statements(8, 3)
}

// of writes an expression that is mostly of a kind; its type is that, or any.
func (w *writer) of(kind string, deep int) string {
	if w.below(60) == 0 {
		return "((" + w.of(w.kind(), deep-1) + ") as any)"
	}
	if deep <= 0 || w.below(3) == 0 {
		return w.name(kind)
	}
	deep--
	switch kind {
	case "num":
		return w.number(deep)
	case "text":
		return w.one("\"x\"", "\"\"", "("+w.of("text", deep)+" + "+w.of("text", deep)+")", "typeof "+w.of(w.kind(), deep), w.of("object", 0)+".b")
	case "bool":
		return w.truth(deep)
	case "object":
		return "({ a: " + w.of("num", deep) + ", b: " + w.of("text", deep) + " } as any)"
	case "array":
		return "([" + w.of("num", deep) + ", 2, " + w.of("num", deep) + "] as any)"
	}
	return "(" + w.function("", deep) + " as any)"
}

func (w *writer) number(deep int) string {
	switch w.below(9) {
	case 0:
		return fmt.Sprint(w.below(5))
	case 1:
		return w.one("999999999", "65536", "2")
	case 2, 3:
		return "(" + w.of("num", deep) + w.one(" + ", " - ", " * ") + w.of("num", deep) + ")"
	case 4:
		return "(-" + w.of("num", deep) + ")"
	case 5:
		return w.of("array", 0) + w.one(".length", "[0]", "[1]", "[2]", "[("+w.of("num", deep)+" as any)]")
	case 6:
		return w.of("object", deep) + ".a"
	case 7:
		return "(" + w.of("num", deep) + " as num)"
	}
	return w.of("function", deep) + "(" + w.of("num", deep) + w.one("", ", "+w.of(w.kind(), deep), ", 1, "+w.of("num", deep)) + ")"
}

func (w *writer) truth(deep int) string {
	kind := w.kind()
	return "((" + w.one("true", "false", "null", "!"+w.of(w.kind(), deep), w.of("num", deep)+" < "+w.of("num", deep), w.of(kind, 0)+" == "+w.of(kind, 0), w.of(kind, deep)+" == "+w.of(w.kind(), deep)) + ") as any)"
}

// function that its own name, if it has one, may call.
func (w *writer) function(own string, deep int) string {
	around := maps.Clone(w.names)
	p, q := w.newName(), w.newName()
	w.add("num", p)
	if own != "" && w.below(3) == 0 {
		w.add("function", own)
	}
	w.inside++
	result := w.one("", "", ": num", ": num | text")
	s := "fn(" + p + w.one("", ": num") + ", " + q + w.one("", "", ": unknown", ": num | text | {}") + ")" + result + " { " + w.statements(3, deep-1) + w.one("", "return "+w.of("num", 1)+"; ", "return "+w.of("num", 1)+"; ") + "}"
	if result != "" {
		s = s[:len(s)-1] + "return 1; }"
	}
	w.inside--
	w.names = around
	return s
}

// named function, that is called; it has others that call it, if it is any.
func (w *writer) named(deep int) string {
	name := w.newName()
	s := "let " + name + " = " + w.function("", deep)
	if w.below(2) == 0 {
		s = "let " + name + ": any = " + w.function(name, deep)
		w.add("function", name)
	}
	return s + "; " + name + "(" + w.of("num", 1) + ", 1);"
}

func (w *writer) statements(n, deep int) string {
	s := ""
	for range 1 + w.below(n) {
		s += w.statement(deep) + " "
	}
	return s
}

// block: what is let in it is forgotten behind it.
func (w *writer) block(deep int) string {
	around := maps.Clone(w.names)
	s := "{ " + w.statements(4, deep-1) + "}"
	w.names = around
	return s
}

func (w *writer) statement(deep int) string {
	switch w.below(16) {
	case 0, 1:
		return w.let(w.kind(), deep)
	case 2, 3:
		kind := w.kind()
		return w.name(kind) + " = " + w.of(kind, deep) + ";"
	case 4:
		return w.of("object", deep) + w.one(".a = "+w.of("num", deep), ".b = "+w.of("text", deep), ".c = "+w.of(w.kind(), deep)) + ";"
	case 5:
		l := w.name("array")
		return l + w.one("[0]", "[1]", "["+l+".length]", "["+l+".length]", "["+w.of("num", 0)+"]") + " = " + w.of("num", deep) + ";"
	case 6:
		if deep > 0 {
			return "if (" + w.of(w.one("bool", "bool", w.kind()), deep) + ") " + w.block(deep) + w.one("", " else "+w.block(deep))
		}
	case 7, 8:
		if deep > 0 {
			return w.loop(deep)
		}
	case 9, 10:
		if deep > 0 {
			return w.named(deep)
		}
	case 11:
		if w.inside > 0 && w.below(2) == 0 {
			return "return " + w.of("num", deep) + ";"
		}
		return w.of("function", deep) + "(" + w.of("num", deep) + ", " + w.of(w.kind(), deep) + ");"
	case 12:
		return w.endless()
	}
	return "print " + w.of(w.kind(), deep) + ";"
}

func (w *writer) let(kind string, deep int) string {
	name := w.newName()
	written := w.one(": any", ": any", "")
	if kind == "num" || kind == "text" {
		written = w.one(": any", ": "+kind)
	}
	s := "let " + name + written + " = " + w.of(kind, deep) + ";"
	w.add(kind, name)
	return s
}

func (w *writer) loop(deep int) string {
	i := w.newName()
	return fmt.Sprint("let ", i, " = 0; while (", i, " < ", w.below(5), ") { ", i, " = ", i, " + 1; ", w.block(deep)[1:])
}

// endless: now and then something that goes on till there is no more of something.
func (w *writer) endless() string {
	if w.below(5) > 0 {
		return "print " + w.of(w.kind(), 2) + ";"
	}
	r, l := w.newName(), w.name("array")
	return w.one("let "+r+" = fn(n: num) { print n; "+r+"(n + 1); }; "+r+"(1);", "while (true) { "+l+"["+l+".length] = {}; }", "while (true) { [fn() {}]; }", "while (true) { print "+w.name("num")+"; }")
}

// guarded: the guards of a program that look, if it runs a way.
func guarded(s string, way int) []api.Guard {
	var list []api.Guard
	switch way {
	case api.RunAll:
		list, _ = place.Guards(s)
	case api.RunFewer:
		list, _ = elide.Guards(s)
	}
	return list
}

// same: do two outcomes tell the same?
func same(a, b api.Outcome) bool {
	return slices.Equal(a.Lines, b.Lines) && a.End == b.End && a.Node == b.Node && slices.Equal(a.Events, b.Events)
}

// wantWhole: what the whole promises of the runs of a program.
func wantWhole(t *testing.T, s string, bare, all, fewer api.Outcome) {
	t.Helper()
	tags := map[int]int{}
	for _, g := range guarded(s, api.RunAll) {
		tags[g.Node] = g.Tags
	}
	for _, e := range all.Events {
		if e.Tag&tags[e.Node] == 0 {
			t.Fatalf("%s\na guard let %v through, and has the tags %d", s, e, tags[e.Node])
		}
	}
	if all.End != api.EndGuard && (!slices.Equal(all.Lines, bare.Lines) || all.End != bare.End || all.Node != bare.Node) {
		t.Fatalf("%s\nno guard fails, and it is %v, and without guards %v", s, all, bare)
	}
	if n := len(all.Lines); n > len(bare.Lines) || !slices.Equal(all.Lines, bare.Lines[:n]) {
		t.Fatalf("%s\na guard fails, and it printed %q, and without guards %q", s, all.Lines, bare.Lines)
	}
	left := map[int]int{}
	for _, g := range guarded(s, api.RunFewer) {
		left[g.Node] = g.Tags
	}
	all.Events = slices.DeleteFunc(all.Events, func(e api.Event) bool { return left[e.Node] == 0 })
	if !same(all, fewer) {
		t.Fatalf("%s\nwith fewer guards it is %v, and with all %v", s, fewer, all)
	}
}

// I1 to I6, H3: drawn programs, against the words of the document, and what the whole promises.
func TestDrawn(t *testing.T) {
	w := &writer{draw: 1}
	seen := map[string]int{}
	for range 1200 {
		s := w.program()
		if _, fault := place.Guards(s); fault.Err != api.OK {
			if fault.Err != api.ErrMany {
				t.Fatalf("Guards(%q): %v", s, fault)
			}
			continue
		}
		fuel := []int{w.below(300), 1000, 8000}[w.below(3)]
		var outs []api.Outcome
		for _, way := range ways() {
			o, fault := Run(s, way, fuel)
			if want := readRun(s, guarded(s, way), fuel); fault.Err != api.OK || !same(o, want) {
				t.Fatalf("Run(%q, %d, %d): %v %v, and must be %v", s, way, fuel, o, fault, want)
			}
			outs = append(outs, o)
		}
		wantWhole(t, s, outs[0], outs[1], outs[2])
		seen[ended(s, outs[0])]++
		seen[ended(s, outs[1])]++
		seen["less"] += len(outs[1].Events) - len(outs[2].Events)
	}
	for _, key := range strings.Split("done fuel less deep_call guard_as guard_at guard_param heap_array heap_fn heap_lay heap_object wrong_at wrong_call wrong_get wrong_lay wrong_one wrong_put wrong_two", " ") {
		if seen[strings.Replace(key, "_", " ", 1)] < 4 {
			t.Errorf("too few of a kind: %q: %v", key, seen)
		}
	}
}

// ended: how, and at which kind of node.
func ended(s string, o api.Outcome) string { return told(s, api.Outcome{End: o.End, Node: o.Node}) }

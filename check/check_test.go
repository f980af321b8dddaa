package check

import (
	"fmt"
	"slices"
	"strings"
	"testing"
	"time"

	"guardrail/api"
	"guardrail/tree"
)

// wantType: what is printed last has this type.
func wantType(t *testing.T, want string, texts ...string) {
	t.Helper()
	for _, s := range texts {
		p, _ := tree.Parse(s)
		types, fault := Types(s)
		k := slices.IndexFunc(types, func(x api.Typed) bool { return x.Node == p.Main-2 })
		if fault != (api.Fault{}) || k < 0 || types[k].Type != want {
			t.Errorf("Types(%.100q): %v %v, and the last one must be %s", s, types, fault, want)
		}
	}
}

// wantFault: the answer is this error where a `^` stands, and nothing else.
func wantFault(t *testing.T, err api.Errno, texts ...string) {
	t.Helper()
	for _, s := range texts {
		at := strings.Index(s, "^")
		s = s[:at] + s[at+1:]
		if types, fault := Types(s); fault != (api.Fault{Err: err, At: at}) || len(types) > 0 {
			t.Errorf("Types(%.100q): %v %v, and must be %v at %d", s, types, fault, err, at)
		}
	}
}

func wantOK(t *testing.T, texts ...string) {
	t.Helper()
	for _, s := range texts {
		if _, fault := Types(s); fault != (api.Fault{}) {
			t.Errorf("Types(%.100q): %v", s, fault)
		}
	}
}

// F1: of each expression, rising, and of nothing else.
func TestEach(t *testing.T) {
	for s, want := range map[string]string{
		"":                                     "[]",
		"while (true) {} if (null) {} else {}": "[{0 bool} {3 null}]",
		"print [1, true];":                     "[{0 num} {1 bool} {2 [num | bool]}]",
		"let x: any = { a: 1 }; x.b = x[2];":   "[{0 num} {2 { a: num; }} {4 any} {5 any} {6 num} {7 any}]",
		"let f = fn(a, b: num): text { b = 1; return \"\"; }; f(null, 2);": "[{2 num} {4 text} {7 (any, num) => text} {9 (any, num) => text} {10 null} {11 num} {12 text}]",
	} {
		if types, fault := Types(s); fmt.Sprint(types) != want || fault != (api.Fault{}) {
			t.Errorf("Types(%q): %v %v, and must be %s", s, types, fault, want)
		}
	}
}

// F1: what has its own type.
func TestOwn(t *testing.T) {
	wantType(t, "num", "print 0;", "print 999999999;", "print (1);")
	wantType(t, "text", `print "";`, `print "num";`)
	wantType(t, "bool", "print true;", "print false;")
	wantType(t, "null", "print null;")
}

// F1: names have what is written at their let or param, or what the let's E has, or any.
func TestNames(t *testing.T) {
	wantType(t, "num", "let x = 1; print x;", "let x: num = 1; print x;", "let y: any = 1; let x: num = y; print x;", "let x = 1; let y = x; let z = y; print z;", "let x = \"\"; if (1) { let x = 1; print x; } let y = 1; print y;")
	wantType(t, "any", "let x: any = 1; print x;", "let x: any = 1; let y = x; print y;", "let x = 1 as any; print x;")
	wantType(t, "num | text", "let x: num|text = 1; print x;", "let x: (num | text) = 1; x = \"a\"; print x;")
	wantType(t, "unknown", "let x: unknown = 1; print x;")
	wantType(t, "num | num", "let x: num | num = 1; print x;")
	wantType(t, "(num | text) | null", "let x: (num | text) | null = 1; print x;")
	wantType(t, "{ b: num; a: [text]; }", "let x: {b:num;a:[text];} = { a: [\"\"], b: 1 }; print x;")
	wantType(t, "(any) => any", "let f = fn(a) { return a; }; print f;")
	for param, want := range map[string]string{"a": "any", "a: num": "num", "a: any": "any", "a: [num]|null": "[num] | null", "a: () => num": "() => num"} {
		s := "fn(b, " + param + ") { print a; };"
		if types, fault := Types(s); fault != (api.Fault{}) || types[0] != (api.Typed{Node: 2, Type: want}) {
			t.Errorf("Types(%q): %v %v, and the first must be %s", s, types, fault, want)
		}
	}
}

// F1: within its own function a let has that one's type, or what is written.
func TestOwnFunction(t *testing.T) {
	for s, want := range map[string]string{
		"let f = fn(a: num, b): text { print f; return \"\"; };": "(num, any) => text",
		"let f = fn() { print f; };":                             "() => any",
		"let f = ((fn(a) { print f; }));":                        "(any) => any",
		"let f: any = fn() { print f; };":                        "any",
		"let f: (num) => any = fn() { print f; };":               "(num) => any",
		"let f = 1; fn() { print f; };":                          "num",
		"let f = fn(f: bool) { print f; };":                      "bool",
		"let f = fn() { let f = null; print f; };":               "null",
		"let f = fn(): num { fn() { if (1) { print f; } }; };":   "() => num",
	} {
		p, _ := tree.Parse(s)
		types, fault := Types(s)
		k := slices.IndexFunc(p.Nodes, func(n api.Node) bool { return n.Kind == api.NodePrint })
		if fault != (api.Fault{}) || !slices.Contains(types, api.Typed{Node: k - 1, Type: want}) {
			t.Errorf("Types(%q): %v %v, and node %d must be %s", s, types, fault, k-1, want)
		}
	}
	wantFault(t, api.ErrType, "let f = fn(a: num) { ^f(true); };", "let f = fn(a): text { let x: num = 1; ^x = f(1); };", "let f = fn() { ^f = 1; };", "let f = fn() { ^f(1); };", "let f: () => num = fn() { let g: text = \"\"; ^g = f(); };")
	wantOK(t, "let f: any = fn() { f = 1; f(1, 2); };", "let f = fn(a: num) { f = fn() {}; };")
}

// F1: functions.
func TestFunctions(t *testing.T) {
	wantType(t, "() => any", "print fn() {};", "print fn() { return 1; };", "print fn(): any {};")
	wantType(t, "(any, num) => any", "print fn(a, b: num) {};")
	wantType(t, "() => num", "print fn(): num {};")
	wantType(t, "(num | text, [any]) => num | null", "print fn(a: num|text, b: [any]): num|null {};")
	wantType(t, "((num) => text) => () => num", "print fn(a: (num) => text): () => num {};")
}

// F1: arrays are of the Union of what is in them, however many they are; objects.
func TestArraysAndObjects(t *testing.T) {
	wantType(t, "[any]", "print [];", "print [1, null as any];", "print [1 as num | any, 2];")
	wantType(t, "[num]", "print [1];", "print [1, 2, 3];", "print [1 as num | num];")
	wantType(t, "[num | text]", "print [1, \"\", 1, \"\"];", "print [1 as num | text, \"\"];", "print [1 as (num | text) | num];")
	wantType(t, "[text | num]", "print [\"\", 1 as num | text];")
	wantType(t, "[[num] | [text]]", "print [[1], [\"\"]];")
	wantType(t, "[[num | text]]", "print [[1, \"\"], [1, \"\"]];")
	wantType(t, "[[num | text] | [text | num]]", "print [[1, \"\"], [\"\", 1]];")
	wantType(t, "[(() => any) | num]", "print [fn() {}, 1];")
	wantType(t, "[num | () => any]", "print [1, fn() {}];")
	wantType(t, "[unknown | num]", "print [1 as unknown, 1];")
	wantType(t, "[{ a: num; b: text; }]", "print [{ a: 1, b: \"\" }, { b: \"\", a: 2 }];")
	wantType(t, "{}", "print {};")
	wantType(t, "{ b: num; a: { c: [any]; }; }", "print { b: 1, a: { c: [] } };")
	many := "print [1" + strings.Repeat(", {}", 100) + strings.Repeat(", 1", 100) + "];"
	wantType(t, "[num | {}]", many)
	parts, want := "", ""
	for k := range 60 {
		parts += fmt.Sprintf(", { p%d: 1 }", k)
		want += fmt.Sprintf(" | { p%d: num; }", k)
	}
	wantType(t, "[null"+want+"]", "print [null"+parts+"];")
}

// F2: calls.
func TestCalls(t *testing.T) {
	wantType(t, "any", "let f: any = 1; print f();", "let f: any = 1; print f(1, true, f);", "print fn() {}();", "print fn(a, b: num) {}(null, 1);")
	wantType(t, "num", "print fn(): num {}();", "let f: (text) => num = 1 as any; print f(\"\");", "print fn(a: num | text): num {}(1);", "print fn(a: num): num {}(null as any);", "print fn(a: unknown): num {}(null);")
	wantType(t, "() => text", "print fn(): () => text {}();")
	wantType(t, "text", "print fn(): () => text {}()();")
	wantFault(t, api.ErrType, "^1();", "^\"a\"();", "^null(1);", "^[]();", "^{}();", "let u: unknown = 1; ^u();", "let u: (() => num) | num = 1; ^u();", "let u: any | num = 1; ^u();", "let u: (() => num) | (() => num) = 1 as any; ^u();",
		"^fn() {}(1);", "^fn(a) {}();", "^fn(a, b) {}(1);", "^fn(a, b) {}(1, 2, 3);", "^fn(a: num) {}(true);", "^fn(a, b: num) {}(1, null);", "^fn(a: num) {}(1 as num | null);", "^fn(a: num) {}(1 as unknown);", "(^fn(a: [num]) {})([true]);", "1 + ^fn(a: { a: num; }) {}({});")
	wantOK(t, "fn(a: { a: num; }) {}({ b: 1, a: 2 });", "fn(a: (num, text) => any) {}(fn(b: num): text {});", "fn(a: [any]) {}([1, true]);")
}

// F2: fields, of any, of objects that have them, and the length of arrays.
func TestFields(t *testing.T) {
	wantType(t, "any", "let x: any = 1; print x.a;", "let x: any = 1; print x.a.length.b;", "print { a: 1 as any }.a;", "print { a: 1 as any }.a.b;")
	wantType(t, "num", "print { a: 1 }.a;", "print { b: null, a: { a: 1 } }.a.a;", "print [].length;", "print [true].length;", "print { length: 1 }.length;")
	wantType(t, "text", "print { length: \"\" }.length;", "let o: { b: num; a: text; } = 1 as any; print o.a;")
	wantType(t, "num | text", "let o: { a: num | text; } = { a: 1 }; print o.a;")
	wantFault(t, api.ErrType, "^{}.a;", "^{ a: 1 }.b;", "^[1].a;", "^[1].Length;", "^1.a;", "^\"a\".length;", "^null.a;", "^fn() {}.length;", "let u: unknown = 1; ^u.a;", "let u: { a: num; } | { a: num; } = 1 as any; ^u.a;", "let u: any | null = 1; ^u.a;", "^{}.length;", "-^{ a: 1 }.a.b;")
}

// F2: places: what stands in `[ ]` fits num; of any and of arrays.
func TestPlaces(t *testing.T) {
	wantType(t, "any", "let x: any = 1; print x[0];", "let x: any = 1; print x[x];", "print [][0];", "print [1 as any][0][true as any];")
	wantType(t, "num", "print [1][0];", "print [[1]][0][0];", "print [1][null as any];", "print [1][1 as num | num];", "print [1][1 as num | any];", "print [2][[1].length - 1];")
	wantType(t, "num | text", "print [1, \"\"][0];")
	wantFault(t, api.ErrType, "^[1][true];", "^[1][\"a\"];", "^[1][1 as num | null];", "^[1][1 as unknown];", "let x: any = 1; ^x[true];", "let x: any = 1; ^x[null];", "^{}[0];", "^{ a: 1 }[0];", "^\"a\"[0];", "^1[0];", "^fn() {}[0];", "^null[0];", "let u: unknown = 1; ^u[0];", "let u: [num] | [num] = [1]; ^u[0];", "^1[true];")
}

// F2: signs between two, of all plain types and some others.
func TestTwo(t *testing.T) {
	all := []string{"num", "bool", "text", "null", "any", "unknown", "num | num", "num | any", "{}", "[num]", "() => num"}
	for _, a := range all {
		for _, b := range all {
			for _, sign := range []string{"+", "-", "*", "<", "=="} {
				s := "print (1 as any as " + a + ") " + sign + " (2 as any as " + b + ");"
				if want := two(sign, a, b); want != "" {
					wantType(t, want, s)
				} else {
					wantFault(t, api.ErrType, strings.Replace(s, "(", "(^", 1))
				}
			}
		}
	}
}

func two(sign, a, b string) string {
	numbers := (a == "num" || a == "any") && (b == "num" || b == "any")
	switch {
	case sign == "==", sign == "<" && numbers:
		return "bool"
	case sign == "+" && (a == "any" || b == "any"):
		return "any"
	case sign == "+" && a == "text" && b == "text":
		return "text"
	case numbers:
		return "num"
	}
	return ""
}

// F2: signs ahead of one, and `as`.
func TestOneAndAs(t *testing.T) {
	for _, of := range []string{"num", "bool", "text", "null", "any", "unknown", "num | num", "num | any", "{}", "[num]", "() => num"} {
		wantType(t, "bool", "print !(1 as any as "+of+");")
		wantType(t, "text", "print typeof (1 as any as "+of+");")
		wantType(t, of, "print null as "+of+";", "print 1 as any as "+of+";")
		if of == "num" || of == "any" {
			wantType(t, "num", "print -(1 as any as "+of+");", "print --(1 as any as "+of+");")
		} else {
			wantFault(t, api.ErrType, "print ^-(1 as any as "+of+");", "print -^-(1 as any as "+of+");")
		}
	}
	wantType(t, "num | text", "print true as num|text;", "print true as (num | text);")
	wantType(t, "{ a: num; }", "print null as { a: num; };")
}

// F3: what is set, or let with a type, fits.
func TestSetAndLet(t *testing.T) {
	wantOK(t, "let x: num = 1; x = 2;", "let x: any = 1; x = null;", "let x: num | null = null; x = 1; x = null;", "let x = 1; x = null as any;", "let x: unknown = 1; x = null;", "let x: { a: num; } = { b: 1, a: 2 };", "let x = [1]; x = [];", "let f = fn(a, b) {}; f = fn(c: num) {};", "fn(a) { a = 1; a = null; };", "let x: (num, any) => num = fn(a: num) {};", "let x = null as any; let y: num = x;")
	wantFault(t, api.ErrType, "^let x: num = true;", "^let x: num = 1 as num | null;", "^let x: { a: num; } = {};", "^let x: [num] = [true];", "^let f: (num) => num = fn(a, b) {};", "if (1) { ^let x: null = 1; }", "let u: unknown = 1; ^let n: num = u;", "^let f: () => num = fn(): text {};",
		"let x = 1; ^x = true;", "let x: num = 1; ^x = null;", "let x = null; ^x = 1;", "let x: num | null = 1; ^x = true;", "let x = [1]; ^x = [true];", "fn(a: num) { ^a = null; };", "let x = 1; (^x) = null;", "let x = {}; fn() { ^x = 1; };", "let f = fn(a) {}; ^f = fn(a, b) {};")
}

// F3: what is put, or laid: the field, or the place, is looked at as if it were got, and what is put fits it.
func TestPutAndLay(t *testing.T) {
	wantOK(t, "let x: any = 1; x.a = 1; x.length = null; x[1] = 2; x[x] = x;", "let o: { a: num | null; } = { a: 1 }; o.a = 1; o.a = null; o.a = 1 as any;", "let a = [1]; a[0] = 2; a[a[0]] = 3; a[0] = null as any; a.length = 3;", "[[1]][0][1] = 2;", "{ a: { b: 1 } }.a.b = 2;", "[][0] = null;")
	wantFault(t, api.ErrType, "let o = { a: 1 }; ^o.a = null;", "let o = { a: 1 }; ^o.b = 1;", "let a = [1]; ^a.b = 1;", "let a = [1]; ^a.length = true;", "^1.a = 1;", "^null.a = 1;", "^{}.a = 1;", "let u: unknown = {}; ^u.a = 1;", "let o = { a: { b: 1 } }; ^o.a.b = true;", "let o = { a: { b: 1 } }; (^o.a.c) = true;",
		"let a = [1]; ^a[0] = true;", "let a = [1]; ^a[true] = 1;", "let a: any = [1]; ^a[true] = 1;", "^{}[0] = 1;", "^1[0] = 1;", "let u: unknown = []; ^u[0] = 1;", "let a = [[1]]; ^a[0][0] = null;", "let a = [[1]]; ^a[0] = 1;")
}

// F3: what is returned fits what is written behind the params of the innermost function, if something is.
func TestReturn(t *testing.T) {
	wantOK(t, "fn() { return 1; };", "fn(): num { return 1; };", "fn(): num { return null as any; };", "fn(): num | null { if (1) { return null; } return 1; };", "fn(): any { return null; };", "fn(): num {};", "fn(): num { fn() { return null; }; return 1; };", "fn() { fn(): num { return 1; }; return null; };", "fn(): unknown { return null; };", "fn(a: num) { return null; };")
	wantFault(t, api.ErrType, "fn(): num { ^return null; };", "fn(): num { if (1) { while (1) { ^return true; } } return 1; };", "fn(): num { if (1) {} else { ^return true; } };", "fn() { fn(): num { ^return true; }; };", "fn(): num { fn(): text { return \"\"; }; ^return \"\"; };", "fn(a: text): num { ^return a; };", "let f = fn(): num { ^return f; };", "fn(): num { ^return 1 as unknown; };")
	wantFault(t, api.ErrState, "^return 1;", "if (1) { ^return 1; }", "if (1) {} else { ^return 1; }", "while (1) { ^return 1; }", "fn() { return 1; }; ^return 1;", "^return fn() { return 1; };")
}

// F4: those of Names ahead of all; else the first one by the nodes' numbers, which is not always the first one by the text.
func TestFirstFault(t *testing.T) {
	wantFault(t, api.ErrForm, "1 + true; 1 ^= 2;", "return 1; ^#")
	wantFault(t, api.ErrNone, "1 + true; ^x;", "return ^x;", "return 1; ^x = 1;")
	wantFault(t, api.ErrTwice, "1 + true; let x = 1; ^let x = 2;", "1 + true; fn(a, ^a) {};")
	wantFault(t, api.ErrType, "^1 + true; return 1;", "let x: num = ^1 + true;", "return ^1 + true;", "let x: num = fn() { ^let y: num = null; };", "fn(a: num) {}(^1 + true, 2);", "[^true + 1, -true];", "let x = 1; x = ^true + 1;", "let a = [1]; a[^1 + true] = null;", "^1 + true + (true + 1);", "-(^-true);", "^1(); 2();", "let f = fn() { ^1(); }; f(1);")
	wantFault(t, api.ErrState, "^return 1; 1 + true;", "fn() {}; ^return 1; -true;", "let x: num = 1; ^return x; x = true;")
}

// objects: lets, each of an object with two of the one ahead; the last one has this name, and 2^(n+1) - 1 types.
func objects(n int) (lets, last string) {
	lets = "let o0 = 1;"
	for k := range n {
		lets += fmt.Sprintf(" let o%d = { p: o%d, q: o%d };", k+1, k, k)
	}
	return lets, fmt.Sprint("o", n)
}

// F4: MaxTypes types in an expression's, and one more: of objects, arrays, unions, functions.
func TestMaxTypes(t *testing.T) {
	lets, last := objects(7) // 255 types
	wantOK(t, lets+" print "+last+";")
	wantFault(t, api.ErrMany, lets+" print ^{ p: "+last+", q: "+last+" };", lets+" print ^[{ a: "+last+" }, "+last+"];")
	wantOK(t, lets+" print ["+last+", "+last+"];", lets+" print { a: "+last+" };")
	fields := func(n int) string {
		s := "{ a: " + last
		for k := range n {
			s += fmt.Sprintf(", b%d: 1", k)
		}
		return s + " }"
	}
	wantOK(t, lets+" print "+fields(44)+";")
	wantFault(t, api.ErrMany, lets+" print ^"+fields(45)+";", lets+" print ^["+fields(44)+"];", lets+" print [^"+fields(45)+"];")
	wantOK(t, "print fn("+params(298)+") {};", "let f = fn("+params(298)+") { f; };", "print [fn("+params(297)+") {}];")
	wantFault(t, api.ErrMany, "print ^fn("+params(299)+") {};", "let f = fn("+params(299)+") { ^f; };", "print ^[fn("+params(298)+") {}];", "let f: any = ^fn("+params(299)+") { f; };", "print ^fn("+params(299)+") { print 1; };")
	wantFault(t, api.ErrType, "fn("+params(299)+") { ^-true; };")
	union := "num" + strings.Repeat("|num", api.MaxTypes-2)
	wantOK(t, "print 1 as "+union+";", "let x: "+union+" = 1; print [x, x, x];", "let x: "+union+" = 1; print x;")
	wantFault(t, api.ErrMany, "let x: "+union+" = 1; print ^{ a: x };")
}

func params(n int) string {
	var names []string
	for k := range n {
		names = append(names, fmt.Sprint("p", k))
	}
	return strings.Join(names, ",")
}

// F1, F2: types that are deeper, and longer, than the text of one may be, are held against each other all the same.
func TestBeyondTexts(t *testing.T) {
	deep := "let a0 = 1;"
	for k := range 60 {
		deep += fmt.Sprintf("let a%d=[a%d];", k+1, k)
	}
	wantType(t, strings.Repeat("[", 60)+"num"+strings.Repeat("]", 60), deep+"print a60;")
	wantType(t, "num", deep+"print a60"+strings.Repeat("[0]", 60)+";")
	wantFault(t, api.ErrType, deep+"^a59=a60;", deep+"^a60=a59;")
	wantOK(t, deep+"a60=[a59]; a59=a60[0];")
	long, want := "let o0 = 1;", "num"
	for k, name := range strings.Split("abcdefg", "") {
		name = strings.Repeat(name, 20)
		long += fmt.Sprintf("let o%d={%s:o%d,%s:o%d};", k+1, name, k, strings.ToUpper(name), k)
		want = "{ " + name + ": " + want + "; " + strings.ToUpper(name) + ": " + want + "; }"
	}
	if len(want) < api.MaxBytes {
		t.Fatalf("%d bytes are too few", len(want))
	}
	wantType(t, want, long+"print o7;")
	wantOK(t, long+"o7={"+strings.Repeat("G", 20)+":o6,"+strings.Repeat("g", 20)+":o6};")
	wantFault(t, api.ErrType, long+"^o7={"+strings.Repeat("g", 20)+":o6};")
	wantType(t, "["+want+"]", long+"print [o7,o7];")
}

// P1: functions within functions' params, and types that are used over and over, end in time.
func TestInTime(t *testing.T) {
	begin := time.Now()
	s := "let f0: any = 1; let g0: any = 2; let f1: (num) => any = f0; let g1: (text) => any = g0;"
	for k := range 12 {
		s += fmt.Sprintf("let f%d=fn(a:%s){};let g%d=fn(a:%s){};", k+2, nested(k, "num"), k+2, nested(k, "text"))
	}
	Types(s + "f13=g13;g13=f13;")
	lets, last := objects(7)
	Types(lets + strings.Repeat(last+"="+last+";", 180) + "[" + last + strings.Repeat(","+last, 50) + "];")
	union := "num" + strings.Repeat("|[num]", 99) + "|text"
	Types("let u: " + union + "=1;" + strings.Repeat("u=u;", 90) + "[u" + strings.Repeat(",u", 100) + "];")
	if spent := time.Since(begin); spent > 5*time.Second {
		t.Errorf("it took %v", spent)
	}
}

// nested is a function's type with a function's type as its param, and so on.
func nested(n int, of string) string {
	if n == 0 {
		return of
	}
	return "(" + nested(n-1, of) + ") => any"
}

// P1, P3: whatever is handed in gets an answer, the same one each time, in new memory.
func TestAnswers(t *testing.T) {
	for _, s := range []string{"\x00", "\xff", "let", strings.Repeat("(", 5000), "é", strings.Repeat("1;", 501)} {
		if types, fault := Types(s); fault.Err == api.OK || len(types) > 0 {
			t.Errorf("Types(%.20q): %v %v", s, types, fault)
		}
	}
	s := "let x = [1, { a: fn(p) {} }]; print x;"
	first, _ := Types(s)
	want := fmt.Sprint(first)
	clear(first)
	if again, _ := Types(s); fmt.Sprint(again) != want {
		t.Errorf("%v, and was %s", again, want)
	}
}

package place

import (
	"fmt"
	"slices"
	"strings"
	"testing"

	"guardrail/api"
	"guardrail/check"
	"guardrail/tree"
)

// kind of a node in a word.
func kind(n api.Node) string {
	return strings.Fields("? num text bool null var fn call get at object array two one as part param")[n.Kind]
}

// words of the tags of a guard.
func words(tags int) string {
	var list []string
	for k, word := range strings.Fields("num bool text null object array function") {
		if tags>>k&1 == 1 {
			list = append(list, word)
		}
	}
	return strings.Join(list, "|")
}

// wantGuards: the guarded nodes begin where a `^` stands, and are these, rising: a kind and its tags.
func wantGuards(t *testing.T, s string, want ...string) {
	t.Helper()
	parts := strings.Split(s, "^")
	s = strings.Join(parts, "")
	var places []int
	for k := range len(parts) - 1 {
		places = append(places, len(strings.Join(parts[:k+1], "")))
	}
	guards, fault := Guards(s)
	p, _ := tree.Parse(s)
	var got []string
	var at []int
	for _, g := range guards {
		got = append(got, kind(p.Nodes[g.Node])+" "+words(g.Tags))
		at = append(at, p.Nodes[g.Node].At)
	}
	slices.Sort(at)
	rising := slices.IsSortedFunc(guards, func(a, b api.Guard) int { return a.Node - b.Node })
	if fault != (api.Fault{}) || !slices.Equal(got, want) || !slices.Equal(at, places) || !rising {
		t.Errorf("Guards(%q): %v %v: %q at %v, and must be %q at %v", s, guards, fault, got, at, want, places)
	}
}

// G1: params with a type that is written, and no others.
func TestParams(t *testing.T) {
	wantGuards(t, "fn(^x: num) { print x; };", "param num")
	wantGuards(t, "fn(a, ^b: text, c: any, ^d: null) {};", "param text", "param null")
	wantGuards(t, "fn(^a: { x: any; }, ^b: [any], ^c: (any) => any, ^d: bool) {};", "param object", "param array", "param function", "param bool")
	wantGuards(t, "fn(^a: num | text, ^b: [num] | (null | {})) {};", "param num|text", "param null|object|array")
	wantGuards(t, "fn(a) { a = fn(^b: num) { b = 1; }; };", "param num")
	wantGuards(t, "let f: (num) => num = fn(a) { print a; };")
}

// G1: what lets all through needs no guard: any, unknown, and unions that have all tags.
func TestAll(t *testing.T) {
	const all = "num | bool | text | null | {} | [num] | () => num"
	for _, of := range []string{"any", "unknown", "num | any", "unknown | num", "num | (text | any)", all} {
		wantGuards(t, "let x: any = 1; fn(a: "+of+") {}; let y: "+of+" = x; y = x; x as "+of+";")
		wantGuards(t, "let x: any = 1; fn(): "+of+" { return x; }(); fn(a: "+of+") {}(x);")
		wantGuards(t, "let x: any = 1; { a: x as "+of+" }.a; { a: x as "+of+" }.a = x; [x as "+of+"][0] = x;")
		wantGuards(t, "let x: any = 1; (^x as ["+of+"])[0];", "var array")
	}
	for _, of := range []string{"num | bool | text | null | {} | [num]", "bool | text | null | {} | [num] | () => num"} {
		tags := strings.NewReplacer("() => num", "function", "[num]", "array", "{}", "object", " ", "").Replace(of)
		wantGuards(t, "fn(^a: "+of+") {};", "param "+tags)
	}
}

// G1: calls, fields and places whose own type is not any.
func TestOwn(t *testing.T) {
	wantGuards(t, "let f = fn(): num {}; ^f();", "call num")
	wantGuards(t, "let f = fn() {}; f(); let x: any = 1; x(); x.a; x[0]; x.length;")
	wantGuards(t, "let f = fn(): () => text {}; ^^f()();", "call function", "call text")
	wantGuards(t, "let o = { a: { b: null }, c: 1 as any }; ^^o.a.b; o.c; o.c.d;", "get object", "get null")
	wantGuards(t, "let a = [[1, \"\"]]; ^^a[0][1]; ^a.length;", "at array", "at num|text", "get num")
	wantGuards(t, "print [][0]; print ^[].length;", "get num")
}

// G1: what is handed in where a function's type asks for something.
func TestHanded(t *testing.T) {
	wantGuards(t, "let g = fn(^a: num, b, ^c: text | null) {}; let x: any = 1; g(^x, x, ^x);", "param num", "param text|null", "var num", "var text|null")
	wantGuards(t, "let g: (num) => any = fn() {}; let x: any = 1; g(^x); g(1); g(^x + 1);", "var num", "two num")
	wantGuards(t, "let x: any = 1; x(x, 1); x(x)(x);")
	wantGuards(t, "let g = fn(^a: num) {}; let x: any = 1; g(^x()); g(^x.a); g(^x[x]); g(^g(^x));", "param num", "call num", "get num", "at num", "var num", "call num")
	wantGuards(t, "let g: (num) => num = ^1 as any; let x: any = 1; ^g(^x);", "as function", "var num", "call num")
}

// G1: what is let where a type is written, or set: what its name has.
func TestLetAndSet(t *testing.T) {
	wantGuards(t, "let x: any = 1; let y: num = ^x; let z: text = \"\"; let u = x; let v: any = x;", "var num")
	wantGuards(t, "let x: any = 1; let y = 1; y = ^x; let z = [y]; z = ^x; let u = x; u = x; u = 1;", "var num", "var array")
	wantGuards(t, "let x: any = 1; let y: num | null = null; y = ^x; y = 1;", "var num|null")
	wantGuards(t, "let f = fn(^a: num, b) { a = ^b; b = a; b = b; f = ^b; };", "param num", "var num", "var function")
	wantGuards(t, "let x: any = 1; let y: num = ((^x)); let z: num = ^x as any; (y) = ^x;", "var num", "as num", "var num")
}

// G1: what is put where the field's or the place's type is known; what stands in `[ ]` is not asked so.
func TestPutAndLay(t *testing.T) {
	wantGuards(t, "let x: any = 1; let o = { a: 1, b: x, c: null }; o.a = ^x; o.b = x; o.c = ^x; o.c = null;", "var num", "var null")
	wantGuards(t, "let x: any = 1; let l = [1, \"\"]; l[0] = ^x; l[x] = 1; l[x] = ^x; l.length = ^x;", "var num|text", "var num|text", "var num")
	wantGuards(t, "let x: any = 1; x.a = x; x[0] = x; x[x] = x; [x][0] = x; [][x] = x; print x[x]; print [x][x];")
	wantGuards(t, "let x: any = 1; let o = { a: [{ b: true }] }; ^^o.a[x].b = ^x;", "get array", "at object", "var bool")
}

// G1: what is returned where a type is written behind the params of the innermost function.
func TestReturned(t *testing.T) {
	wantGuards(t, "fn(a): num { if (a) { return ^a; } while (a) { return 1; } return ^a; };", "var num", "var num")
	wantGuards(t, "fn(a) { return a; }; fn(a): any { return a; };")
	wantGuards(t, "fn(a): num { fn() { return a; }; fn(): text { return ^a; }; return ^a; };", "var text", "var num")
	wantGuards(t, "fn(^a: num) { fn(b): null { return ^b; }; return a; };", "param num", "var null")
}

// G1: what stands ahead of `as`.
func TestAs(t *testing.T) {
	wantGuards(t, "let x: any = null; print ^x as num; print 1 as text; print x as any; print x as unknown;", "var num")
	wantGuards(t, "let x: any = null; print ^x as num as text; print x as any as any; print ^x as any as text;", "var num", "as text")
	wantGuards(t, "let x: any = null; print (^x + 1) as num | text; print ^x.a as null; print { y: ^x as num, z: x };", "two num|text", "get null", "var num")
	wantGuards(t, "let x: unknown = 1; let y: num | any = 1; x as num; y as num;")
}

// G1: where nothing is asked for, there is none.
func TestNone(t *testing.T) {
	wantGuards(t, "")
	wantGuards(t, "let x: any = 1; print x; x; if (x) { x; } while (x) { x; } !x; -x; typeof x; x + x; x - x; x * x; x < x; x == x; [x]; { a: x };")
	wantGuards(t, "let x = 1; print x + 2; let f = fn(a, b) { return a + b; }; f(1, 2);")
}

// G1: the example of the document.
func TestExample(t *testing.T) {
	guards, fault := Guards("fn(x: num) { print x; };")
	if len(guards) != 1 || guards[0] != (api.Guard{Node: 0, Tags: api.TagNum}) || fault != (api.Fault{}) {
		t.Errorf("%v %v", guards, fault)
	}
}

// G1: types that no text could hold are guarded by their tags all the same.
func TestBeyondTexts(t *testing.T) {
	deep := "let x: any = 1; let a0 = 1;"
	for k := range 60 {
		deep += fmt.Sprintf("let a%d=[a%d];", k+1, k)
	}
	wantGuards(t, deep+"a60=^x; print ^a60[0];", "var array", "at array")
}

// G1, P1: faults are those of Types, and nothing else is answered then.
func TestFaults(t *testing.T) {
	for _, s := range []string{"\x00", "1 = 2;", "print x;", "let x = 1; let x = 2;", "fn(a: num) {}(null);", "let o: { a: num; } = {};", "return 1;", "fn(a: num) { return 1; }; return 1;", "let x: any = 1; let y: num = x; y = true;", strings.Repeat("(", 30), strings.Repeat("1;", 501), strings.Repeat(" ", 5000)} {
		_, want := check.Types(s)
		if guards, fault := Guards(s); want.Err == api.OK || fault != want || len(guards) > 0 {
			t.Errorf("Guards(%.40q): %v %v, and must be %v", s, guards, fault, want)
		}
	}
}

// P2, P3: the same each time, in new memory.
func TestAnswers(t *testing.T) {
	s := "fn(a: num, b: text, c): num { a = c; b = c; return c; };"
	first, _ := Guards(s)
	want := fmt.Sprint(first)
	clear(first[:cap(first)])
	if again, _ := Guards(s); len(again) != 5 || fmt.Sprint(again) != want {
		t.Errorf("%v, and was %s", again, want)
	}
}

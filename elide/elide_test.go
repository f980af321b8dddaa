package elide

import (
	"fmt"
	"slices"
	"strings"
	"testing"

	"guardrail/api"
	"guardrail/place"
	"guardrail/tree"
)

// ask has functions that ask for numbers, texts, or both; what they answer is any.
const ask = "let g = fn(^x: num) {}; let k = fn(^x: text) {}; let b = fn(^x: num | text) {}; "

// marked answers a program with its guards: `^` ahead of each that is left, `~` ahead of each that is gone.
func marked(t *testing.T, s string) string {
	t.Helper()
	all, _ := place.Guards(s)
	left, fault := Guards(s)
	if fault != (api.Fault{}) {
		t.Errorf("Guards(%q): %v", s, fault)
		return ""
	}
	p, _ := tree.Parse(s)
	marks := map[int]string{}
	for _, g := range all {
		mark := "~"
		if slices.Contains(left, g) {
			mark = "^"
		}
		marks[p.Nodes[g.Node].At] += mark
	}
	out := ""
	for at := range len(s) + 1 {
		out += marks[at] + s[at:min(at+1, len(s))]
	}
	return out
}

// wantMarked: these, behind what asks, have their guards as they are marked.
func wantMarked(t *testing.T, texts ...string) {
	t.Helper()
	for _, s := range texts {
		s = ask + s
		if got := marked(t, strings.NewReplacer("^", "", "~", "").Replace(s)); got != s {
			t.Errorf("the guards are\n%s\nand must be\n%s", got, s)
		}
	}
}

// H1, H2: behind a guard of a name it is known what that let through, but not behind a let or set of it, nor of other names.
func TestGuarded(t *testing.T) {
	wantMarked(t,
		"fn(a) { g(^a); g(~a); b(~a); g(~a); };",
		"fn(a) { b(^a); b(~a); g(^a); b(~a); g(~a); };",
		"fn(a, c) { g(^a); g(^c); g(~a); g(~c); };",
		"fn(a) { g(^a); a = a; g(~a); a = a + 1; g(^a); g(~a); };",
		"fn(a) { g(^a); if (a) { let a: any = a.b; g(^a); } g(~a); };",
		"fn(a) { print a; a; -a; a.b; a(a); g(^a); };",
	)
}

// H2: where no tag is left that the value might have, nothing comes that far, and no guard is needed.
func TestNothingLeft(t *testing.T) {
	wantMarked(t,
		"fn(a) { g(^a); k(^a); g(~a); k(~a); print ~a as null; };",
		"let a: any = true; g(^a); k(~a); let c = a; k(~c);",
		"let a: any = true; b(^a); a = 1; b(~a); k(^a);",
	)
}

// H1: all guards of a name tell, wherever they stand.
func TestWhereGuarded(t *testing.T) {
	wantMarked(t,
		"fn(a) { print ^a as num; g(~a); };",
		"fn(a) { let n: num = ^a; g(~a); };",
		"fn(a) { let n = 1; n = ^a; g(~a); };",
		"fn(a) { { p: 1 }.p = ^a; g(~a); };",
		"fn(a) { [1][0] = ^a; g(~a); };",
		"fn(a): num { return ^a; g(~a); };",
		"fn(a) { g(^a as any); g(^a); g(^a as any); };",
		"fn(a) { g(^a.b); g(^a); g(^a.b); g(^a[0]); g(^a()); };",
	)
}

// H1: parts are followed from the left: what is called, what is handed in; the object, the array, the place, what is put.
func TestFromTheLeft(t *testing.T) {
	wantMarked(t,
		"let two = fn(^x: num, ^y: num) {}; fn(a) { two(^a, ~a); };",
		"fn(a) { g(^a)(g(~a), g(~a)); };",
		"fn(a) { print [g(^a), { p: g(~a), q: -g(~a) }, g(~a) + g(~a)]; };",
		"fn(a) { print g(^a) == g(~a); print !g(~a); };",
		"fn(a) { g(^a).p = g(~a); };",
		"fn(a) { g(^a)[g(~a)] = g(~a); };",
		"fn(a) { g(^a)[g(~a)]; };",
		"fn(a, c, d) { d.p = g(^a); d[g(~a)] = g(^c); d[g(~a) + g(~c)](g(~c)); };",
		"fn(a) { let c = g(^a); let d = [g(~a)]; };",
	)
}

// H1: of a param that is guarded that is known; of others nothing.
func TestParams(t *testing.T) {
	wantMarked(t,
		"fn(^p: num, q) { let v: any = p; g(~v); let w: any = q; g(^w); };",
		"fn(^p: num | text) { let v: any = p; g(^v); b(~v); };",
		"fn(p: any | num) { let v: any = p; g(^v); };",
		"fn(^p: num) { p = p + 1; let v: any = p; g(^v); };",
		"fn(^p: num) { p = p - 1; let v: any = p; g(~v); };",
	)
}

// sureOf: behind a let, and behind a set, of this E, the guards of these tags are gone, and no others.
func sureOf(t *testing.T, e string, tags int) {
	t.Helper()
	for k, of := range []string{"num", "bool", "text", "null", "{}", "[any]", "() => any"} {
		for _, s := range []string{"let x: any = null; let v: any = " + e + "; v as " + of + ";", "let x: any = null; let v: any = x(); v = " + e + "; v as " + of + ";"} {
			all, fault := place.Guards(s)
			left, why := Guards(s)
			last := all[len(all)-1]
			if gone := !slices.Contains(left, last); gone != (tags&^(1<<k) == 0) || last.Tags != 1<<k || fault != why {
				t.Errorf("Guards(%q): %v of %v, %v", s, left, all, why)
			}
		}
	}
}

// H1: the sure tags of each E.
func TestSure(t *testing.T) {
	for tag, list := range map[int][]string{
		api.TagNum:    {"1", "(1)", "-1", "--1", "-x", "1 - 2", "x - x", "1 * 2", "x * x"},
		api.TagBool:   {"true", "false", "1 == 2", "x == x", "1 < 2", "x < x", "!1", "!x"},
		api.TagText:   {`""`, `"1"`, "typeof 1", "typeof x"},
		api.TagNull:   {"null", "x"},
		api.TagObject: {"{}", "{ a: x }"},
		api.TagArray:  {"[]", "[x]"},
		api.TagFunc:   {"fn() {}", "fn(a): num { return 1; }"},
		api.TagsAll:   {"1 + 2", `"a" + "b"`, "x + x", "1 as num", "x as null", "x as any", "x()", "x.a", "x[0]", "fn() {}()", "[x][0]"},
	} {
		for _, e := range list {
			sureOf(t, e, tag)
		}
	}
}

// H1: else the sure tags are those of the guard at the E, be it for its own type or for what is asked for.
func TestSureByGuard(t *testing.T) {
	sureOf(t, "fn(): num {}()", api.TagNum)
	sureOf(t, "{ a: \"\" }.a", api.TagText)
	sureOf(t, "[[1]][0]", api.TagArray)
	sureOf(t, "[1].length", api.TagNum)
	sureOf(t, "fn(): num | text {}()", api.TagNum|api.TagText)
	wantMarked(t,
		"fn(a) { let n: num = ^a(); let v: any = n; g(~v); };",
		"fn(a) { let n: num | text = ^a.p; let v: any = n; b(~v); g(^v); };",
		"fn(a) { let n = 1; n = ^a[0]; let v: any = n; g(~v); };",
		"fn(a) { let n: num = ^a + 1; let v: any = n; g(~v); };",
		"fn(a) { let n: num = ^a as any; let v: any = n; g(~v); };",
		"let n = 1 + 2; let v: any = n; g(^v);",
		"fn(a) { let v = ^a as num; let w: any = v; g(^w); g(~a); };",
	)
}

// H1: of a name that is let or set that is sure which is known of the other one then; later they go their own ways.
func TestSureByName(t *testing.T) {
	wantMarked(t,
		"fn(a) { g(^a); let c = a; g(~c); c = true; g(^c); g(~a); };",
		"fn(a) { let c = a; g(^c); g(^a); g(~c); };",
		"fn(a) { let c = a; g(^a); g(^c); };",
		"fn(a) { let n: num = ^a; let v: any = n; g(~v); };",
		"fn(a) { b(^a); let n: num = ^a; let v: any = n; g(~v); };",
		"let o: any = 1; b(~o); k(^o); let p: any = o; k(~p); g(~p);",
		"fn(a) { a = 1; let c = a; a = null; g(~c); g(^a); };",
	)
}

// H1: of a name that is caught nothing is ever known.
func TestCaught(t *testing.T) {
	wantMarked(t,
		"let m: any = 3; let n = fn() { m = \"\"; }; g(^m); n(); g(^m); m = 1; g(^m); g(^m);",
		"let m: any = 3; g(^m); fn() { fn() { m = 1; g(^m); g(^m); }; };",
		"fn(a) { g(^a); g(^a); fn() { a = 1; }; };",
		"let m: any = 3; let c = m; g(^c); fn() { m = 1; };",
		"let m: any = 3; let n: num = ^m; let v: any = n; g(^v); fn() { m = 1; };",
		"fn(^p: num) { let v: any = p; g(^v); fn() { p = 1; }; };",
		"let m: any = 3; g(~m); fn() { let m: any = 4; m = 5; g(~m); };",
		"let m: any = 3; g(~m); fn() { m.a = 1; m[0] = 2; g(^m); };",
	)
}

// H1: the blocks of an if begin with what is known behind its E; so does what is behind, but for what they set.
func TestIf(t *testing.T) {
	wantMarked(t,
		"fn(a) { if (g(^a)) { g(~a); } else { g(~a); } g(~a); };",
		"fn(a) { if (1) { g(^a); g(~a); } else { g(^a); g(~a); } g(^a); };",
		"fn(a) { g(^a); if (1) { a = 1; g(~a); } g(^a); };",
		"fn(a) { g(^a); if (1) { g(~a); } else { a = 1; } g(^a); };",
		"fn(a) { g(^a); if (1) { a = true; k(^a); } else { g(~a); } };",
		"fn(a) { g(^a); if (1) { if (1) { while (1) { a = 1; } } } g(^a); };",
		"fn(a) { g(^a); if (1) { let a = 1; a = 2; } g(~a); };",
		"fn(a) { if (1) { a = 1; } g(^a); if (1) { g(~a); } };",
		"fn(a, c) { g(^a); g(^c); if (1) { c = 1; } g(~a); g(^c); };",
		"let a: any = 1; if (1) { a = 2; } else { a = 3; } g(^a);",
		"fn(a) { if (a) { b(^a); } else { let c: any = 1; g(~c); a = c; } b(^a); };",
	)
}

// H1: the E of a while begins with what is known ahead of it, but for what is set in it; so does what is behind.
func TestWhile(t *testing.T) {
	wantMarked(t,
		"fn(a) { g(^a); while (g(~a)) { g(~a); } g(~a); };",
		"fn(a) { while (g(^a)) { g(~a); } g(^a); };",
		"fn(a) { while (1) { g(^a); g(~a); } g(^a); };",
		"fn(a) { g(^a); while (g(^a)) { g(~a); a = 1; g(~a); } g(^a); };",
		"fn(a) { g(^a); while (1) { g(^a); a = 1; } g(^a); };",
		"fn(a) { g(^a); while (g(^a)) { if (1) { a = 1; } g(^a); } g(^a); };",
		"fn(a) { g(^a); while (1) { while (1) { a = 1; } } g(^a); };",
		"fn(a, c) { g(^a); g(^c); while (g(~a)) { g(~a); g(^c); c = 1; } g(~a); g(^c); };",
		"fn(a) { g(^a); while (g(~a)) { let a: any = 1; a = 2; g(~a); a = a(); g(^a); } g(~a); };",
		"fn(a) { while (g(^a)) { g(~a); while (g(^a)) { g(~a); a = 1; } g(^a); } };",
		"fn(a, c) { while (1) { let d = c; g(^d); c = a; a = 1; } };",
	)
}

// H1: a fn changes nothing around it, and nothing is known where its block begins, but for its params.
func TestFunctions(t *testing.T) {
	wantMarked(t,
		"fn(a) { g(^a); fn() { g(^a); g(~a); }; g(~a); };",
		"fn(a) { fn() { g(^a); g(~a); }; g(^a); };",
		"let a: any = 1; g(~a); let f = fn() { g(^a); fn() { g(^a); }; g(~a); }; g(~a);",
		"fn(a) { g(^a); print [fn() { g(^a); }, g(~a)]; };",
		"fn(a) { g(^a); fn(^b: num, c) { let v: any = b; g(~v); g(^c); g(^a); }; };",
		"fn(a) { g(^a); fn(a) { g(^a); a = null; }; g(~a); };",
		"fn(a) { g(^a); if (1) { fn(a) { a = 1; }; } while (1) { fn() { let a: any = 1; a = 2; g(~a); }; } g(~a); };",
		"let f: any = fn() { g(^f); g(~f); }; print ~f as () => any; g(^f);",
		"fn(a) { fn() { if (g(^a)) {} g(~a); while (g(~a)) {} }; g(^a); };",
	)
}

// H2: none but those of a name that is used are ever gone.
func TestOthersStay(t *testing.T) {
	wantMarked(t,
		"let o = { a: 1 }; print ^o.a; print ^o.a; let l = [1]; print ^l[0] + ^l[0]; print ^l.length + ^l.length;",
		"let f = fn(^a: num): num { return 1; }; ^f(1); ^f(^f(1));",
		"let v: any = 1; g(^v + 1); g(^v + 1); g(^v as any); g(~v);",
	)
}

// H2: the example of the document.
func TestExample(t *testing.T) {
	wantMarked(t, "fn(a) { g(^a); g(~a); };")
}

// H2, P1: faults are those of chapter 7, and nothing else is answered then.
func TestFaults(t *testing.T) {
	for _, s := range []string{"\x00", "1 = 2;", "print x;", "let x = 1; let x = 2;", "fn(a: num) {}(null);", "return 1;", "let x: any = 1; let y: num = x; y = true;", strings.Repeat("(", 30), strings.Repeat("1;", 501), strings.Repeat(" ", 5000)} {
		_, want := place.Guards(s)
		if guards, fault := Guards(s); want.Err == api.OK || fault != want || len(guards) > 0 {
			t.Errorf("Guards(%.40q): %v %v, and must be %v", s, guards, fault, want)
		}
	}
	if guards, fault := Guards(""); len(guards) > 0 || fault != (api.Fault{}) {
		t.Errorf("of nothing: %v %v", guards, fault)
	}
}

// P2, P3: the same each time, in new memory.
func TestAnswers(t *testing.T) {
	s := "fn(a: num, b: text, c): num { a = c; b = c; a = c; return c; };"
	first, _ := Guards(s)
	want := fmt.Sprint(first)
	clear(first[:cap(first)])
	if again, _ := Guards(s); len(again) != 4 || fmt.Sprint(again) != want {
		t.Errorf("%v, and was %s", again, want)
	}
}

package bind

import (
	"fmt"
	"slices"
	"strings"
	"testing"

	"guardrail/api"
	"guardrail/tree"
)

// marked is a text in which stand, ahead of a let or a param, `@` and a letter, and ahead of a name that is that one `^` and that letter.
type marked struct {
	text string
	lets map[int]byte // by places
	uses map[int]byte
}

func unmark(s string) marked {
	m := marked{lets: map[int]byte{}, uses: map[int]byte{}}
	for i := 0; i < len(s); i++ {
		switch s[i] {
		case '@':
			m.lets[len(m.text)] = s[i+1]
			i++
		case '^':
			m.uses[len(m.text)] = s[i+1]
			i++
		default:
			m.text += s[i : i+1]
		}
	}
	return m
}

// wantNames: the names of a marked text are those that are marked, and rise.
func wantNames(t *testing.T, texts ...string) {
	t.Helper()
	for _, s := range texts {
		m := unmark(s)
		names, fault := Names(m.text)
		p, _ := tree.Parse(m.text)
		if fault != (api.Fault{}) || len(names) != len(m.uses) {
			t.Errorf("Names(%q): %v %v", m.text, names, fault)
			continue
		}
		for _, b := range names {
			if got, want := m.lets[p.Nodes[b.To].At], m.uses[p.Nodes[b.Node].At]; got != want || got == 0 {
				t.Errorf("Names(%q): node %d is %c, and must be %c", m.text, b.Node, got, want)
			}
		}
		if !slices.IsSortedFunc(names, func(a, b api.Bound) int { return a.Node - b.Node }) {
			t.Errorf("Names(%q): %v", m.text, names)
		}
	}
}

// wantCaught: of a marked text these are caught, by their letters, in the order of their nodes.
func wantCaught(t *testing.T, s, letters string) {
	t.Helper()
	wantNames(t, s)
	m := unmark(s)
	caught, fault := Caught(m.text)
	p, _ := tree.Parse(m.text)
	got := ""
	for _, i := range caught {
		if kind := p.Nodes[i].Kind; kind == api.NodeLet || kind == api.NodeParam {
			got += string(m.lets[p.Nodes[i].At])
		}
	}
	if got != letters || len(caught) != len(letters) || fault != (api.Fault{}) || !slices.IsSorted(caught) {
		t.Errorf("Caught(%q): %v, which are %q, %v; and must be %q", m.text, caught, got, fault, letters)
	}
}

// wantFault: both calls answer this error where a `^` stands, and nothing else.
func wantFault(t *testing.T, err api.Errno, texts ...string) {
	t.Helper()
	for _, s := range texts {
		at := strings.Index(s, "^")
		s = s[:at] + s[at+1:]
		want := api.Fault{Err: err, At: at}
		if names, fault := Names(s); fault != want || len(names) > 0 {
			t.Errorf("Names(%.80q): %v %v, and must be %v", s, names, fault, want)
		}
		if caught, fault := Caught(s); fault != want || len(caught) > 0 {
			t.Errorf("Caught(%.80q): %v %v, and must be %v", s, caught, fault, want)
		}
	}
}

// E1: the numbers, as the document's example has them, and with a set, which comes behind its E.
func TestNumbers(t *testing.T) {
	for s, want := range map[string]string{
		"":                               "[]",
		"print 1;":                       "[]",
		"let x = 1; print x;":            "[{2 1}]",
		"let x = 1; x = x + 2; print x;": "[{2 1} {5 1} {6 1}]",
		"let f = fn(x) { f(x); };":       "[{1 7} {2 0}]",
	} {
		if names, fault := Names(s); fmt.Sprint(names) != want || fault != (api.Fault{}) {
			t.Errorf("Names(%q): %v %v, and must be %s", s, names, fault, want)
		}
	}
}

// E1: wherever a name may stand, used or set.
func TestWhereNamesStand(t *testing.T) {
	wantNames(t,
		"@alet a = 1; print ^aa;", "@alet a = 1; ^aa = 2; (^aa) = ^aa; ^aa;", "@alet a = 1; -^aa * !^aa + typeof ^aa < ^aa as num;",
		"@alet a = 1; ^aa(^aa, [^aa], { a: ^aa, b: (^aa) })[^aa].a;", "@alet a = 1; ^aa.a = ^aa; ^aa[^aa] = ^aa; ^aa(^aa).a = 1;",
		"@alet a = 1; if (^aa) { print ^aa; } else { ^aa = ^aa; } while (^aa) { ^aa; }", "@alet a = 1; @blet b = ^aa; @clet c: num = ^aa + ^bb;",
		"@alet a = 1; fn(@bb, @cc: any): num { return ^aa + ^bb + ^cc; };", "fn(@bb) { ^bb = ^bb; };", "@alet a = 1; { a: ^aa }.a.a;", "@alet a = 1; @blet A = 2; ^aa; ^bA;")
}

// E1: the innermost block that has one ahead of the name.
func TestInnermost(t *testing.T) {
	wantNames(t,
		"@alet a = 1; if (^aa) { ^aa; @blet a = 2; ^ba; ^ba = 3; } ^aa;", "@alet a = 1; if (1) { @blet a = 2; } else { ^aa; @clet a = 3; ^ca; } ^aa;",
		"@alet a = 1; while (^aa) { ^aa = 2; @blet a = 3; while (^ba) { ^ba; @clet a = 4; ^ca; } ^ba; } ^aa;", "if (1) { @alet a = 1; ^aa; } if (1) { @blet a = 1; ^ba; }",
		"@alet a = 1; fn() { ^aa; @blet a = 2; ^ba; fn() { ^ba; }; }; ^aa;", "@alet a = 1; fn(@ba) { ^ba; if (1) { ^ba; @clet a = 2; ^ca; } ^ba; }; ^aa;",
		"fn(@aa) { fn(@ba) { ^ba; }; ^aa; fn() { ^aa; }; };", "fn(@aa) { ^aa; }; fn(@ba) { ^ba; };", "@alet a = 1; if (1) { if (1) { fn() { while (1) { ^aa; } }; } }",
		"@alet a = 1; fn(@bb) { ^bb; ^aa; @clet b2 = ^bb; @dlet c = fn(@eb) { ^eb; ^cb2; ^dc; }; };")
}

// E1: the E of a let does not know its name; a function does, if it is all of the E.
func TestOwnName(t *testing.T) {
	wantNames(t,
		"@alet f = fn() { ^af(); ^af = ^af; };", "@alet f = ((fn() { ^af(); }));", "@alet f: any = fn() { if (1) { fn() { ^af; }; } };", "@alet f = fn(@bf) { ^bf(); };", "@alet f = fn() { ^af; @blet f = 1; ^bf; }; ^af;",
		"@alet a = 1; if (1) { @blet a = ^aa; ^ba; }", "@alet a = 1; if (1) { @blet a = [fn() { ^aa; }]; ^ba; }", "@alet a = 1; if (1) { @blet a = fn() { ^ba; }; ^ba; }", "@alet a = 1; fn() { @blet a = ^aa + 1; };",
		"@alet f = fn() { @blet g = fn() { ^af; ^bg; }; };", "@alet f = 1; if (1) { @blet f = fn() { ^af; } as any; }")
	wantFault(t, api.ErrNone, "let x = ^x;", "let x = 1 + ^x;", "let x: num = ^x;", "let x = [fn() { ^x = 1; }];", "let x = fn() { ^x; }();", "let x = fn() { ^x; } as any;", "let x = { x: ^x };", "let x = (^x);", "let x = !fn() { ^x; };")
}

// E1: a name that is none: there is none, it is behind, or in a block that is over.
func TestNone(t *testing.T) {
	wantFault(t, api.ErrNone, "print ^q;", "^x = 1;", "(^x) = 1;", "^x.a = 1;", "^x[1] = 1;", "let a = 1; a[1] = ^b;", "let a = 1; a[^b] = 1;", "let a = 1; a.c = ^c;", "^f(1);", "1(1, ^x);", "[1, ^x];", "{ a: ^a };",
		"^a; let a = 1;", "^a = 1; let a = 1;", "if (^a) { let a = 1; }", "if (1) { let a = 1; } ^a;", "if (1) { let a = 1; } else { ^a; }", "while (^a) { let a = 1; }", "while (1) { ^a; let a = 1; }",
		"fn(a) {}; ^a;", "fn(a) {}(^a);", "fn() { let a = 1; }; ^a;", "fn() { ^a; }; let a = 1;", "let f = fn() { ^g(); }; let g = fn() { f(); };", "let a = 1; ^A;", "let f = fn() { let g = 1; }; ^g;", "return ^x;", "print typeof ^x;")
}

// E1: a let whose name its own block has already, of a function's block also its params; others may have it.
func TestTwice(t *testing.T) {
	wantFault(t, api.ErrTwice, "let x = 1; ^let x = 2;", "let x = 1; ^let x: num = x;", "let f = fn() {}; ^let f = fn() { f(); };", "if (1) { let x = 1; x = 2; ^let x = 3; }", "if (1) {} else { let x = 1; ^let x = 3; }", "while (1) { let x = 1; ^let x = 3; }",
		"fn(a) { ^let a = 1; };", "fn(a, b) { a = b; ^let b = 1; };", "let f = fn(f) { ^let f = 1; };", "fn() { let a = 1; ^let a = 2; };", "let a = 1; if (1) { let a = 2; } ^let a = 3;", "let a = 1; fn(b) { let b2 = 1; }; ^let a = 1;")
	wantNames(t, "@alet x = 1; if (1) { @blet x = 2; } while (1) { @clet x = 3; } fn(@dx) { if (1) { @elet x = 4; } };", "@alet f = fn() { @blet f = 1; };", "@alet a = fn(@bb) { @clet a = ^bb; }; @dlet b = ^aa;", "@alet x = 1; @blet X = 2;")
}

// E1: those of Parse ahead of all; else the first fault by the text.
func TestFirstFault(t *testing.T) {
	wantFault(t, api.ErrForm, "x; 1 ^= 2;", "let x = 1; let x = 2; print ^;", "x ^x;", "x; ^\"a;")
	wantFault(t, api.ErrTwice, "x; { a: 1, ^a: 2 };", "x; fn(a, ^a) {};")
	wantFault(t, api.ErrDeep, "x; "+strings.Repeat("(", api.MaxDeep-1)+"^1")
	wantFault(t, api.ErrMany, "^x;"+strings.Repeat(" ", api.MaxBytes))
	wantFault(t, api.ErrTwice, "let x = 1; ^let x = y;", "let x = 1; ^let x = fn() { y; };", "let a = 1; ^let a = 2; b;", "fn(a) { ^let a = b; };")
	wantFault(t, api.ErrNone, "print ^a; let a = 1; let a = 2;", "let a = ^b; let a = 1; let b = 1;", "^x = y;", "^x = fn() { let a = 1; let a = 2; };", "^x.a = y;", "^a(b);", "^a + b;", "if (^a) { b; }", "fn(a) { ^b; let a = 1; };", "[^a, b];", "let a = 1; a[^b] = c;", "let x = 1; let y = ^z; let x = 2;")
}

// E2: what is set within a function that is not the innermost one around its let or param.
func TestCaught(t *testing.T) {
	wantCaught(t, "", "")
	wantCaught(t, "@alet a = 1; ^aa = 2; if (^aa) { ^aa = 3; } while (^aa) { ^aa = 4; }", "")
	wantCaught(t, "@alet a = 1; fn() { ^aa = 2; };", "a")
	wantCaught(t, "@alet a = 1; fn() { print ^aa; @blet b = ^aa; ^bb = 1; };", "")
	wantCaught(t, "@alet a = 1; fn() { while (1) { if (1) { ^aa = 2; } } };", "a")
	wantCaught(t, "@alet a = 1; fn() { fn() { ^aa = 2; }; };", "a")
	wantCaught(t, "if (1) { @alet a = 1; fn() { ^aa = 2; ^aa = 3; }; fn() { ^aa = 4; }; }", "a")
	wantCaught(t, "fn(@aa) { ^aa = 1; if (1) { ^aa = 2; } };", "")
	wantCaught(t, "fn(@aa, @bb) { fn() { ^bb = 1; }; ^aa = 2; };", "b")
	wantCaught(t, "fn(@aa) { @blet b = 1; fn() { ^bb = ^aa; }; };", "b")
	wantCaught(t, "fn() { fn() { fn(@aa) { @blet b = 1; ^aa = 1; ^bb = 2; }; }; };", "")
	wantCaught(t, "fn() { fn(@aa) { @blet b = 1; fn() { ^aa = 1; ^bb = 2; }; }; };", "ab")
	wantCaught(t, "@alet a = 1; fn(@ba) { ^ba = 2; }; fn() { @clet a = 1; ^ca = 2; };", "")
	wantCaught(t, "@alet a = fn() { @blet b = fn() { ^aa = ^bb; ^bb = ^aa; }; };", "ba")
	wantCaught(t, "@alet f = fn() { ^af = 1; };", "a")
	wantCaught(t, "@alet a = 1; @blet b = 2; fn() { ^bb = 1; ^aa = 2; };", "ab")
	wantCaught(t, "@alet a = 1; fn() { ^aa.b = 2; ^aa[1] = 3; ^aa; };", "")
	wantCaught(t, "@alet a = 1; ^aa = fn() { ^aa; };", "")
}

// P1, P3: at the limits there is an answer, and the same one each time; it is new memory.
func TestLimits(t *testing.T) {
	long := "let x = 1" + strings.Repeat(" + 1", 100) + ";" + strings.Repeat("x=x;", 198)
	for range 2 {
		names, fault := Names(long)
		if fault != (api.Fault{}) || len(names) != 2*198 {
			t.Fatalf("%d names, %v", len(names), fault)
		}
		clear(names)
	}
	if _, fault := Names(long + "x=x;"); fault.Err != api.ErrMany {
		t.Errorf("too many tokens: %v", fault)
	}
	deep := strings.Repeat("fn(x) {", api.MaxDeep/2-1) + "x = x;" + strings.Repeat("};", api.MaxDeep/2-1)
	if names, fault := Names(deep); fault != (api.Fault{}) || len(names) != 2 || names[0].To != api.MaxDeep/2-2 {
		t.Errorf("deep: %v %v", names, fault)
	}
	for _, s := range []string{"\x00", "\xff\xfe", "let", strings.Repeat("(", 5000), "é"} {
		if names, fault := Names(s); fault.Err == api.OK || len(names) > 0 {
			t.Errorf("Names(%.20q): %v %v", s, names, fault)
		}
	}
}

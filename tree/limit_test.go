package tree

import (
	"strings"
	"testing"

	"guardrail/api"
)

// nest puts a text in as many pairs.
func nest(open string, n int, within, end string) string {
	return strings.Repeat(open, n) + within + strings.Repeat(end, n)
}

func wantOK(t *testing.T, texts ...string) {
	t.Helper()
	for _, s := range texts {
		if p, fault := Parse(s); fault != (api.Fault{}) {
			t.Errorf("Parse(%.80q): %v", s, fault)
		} else {
			wantNumbers(t, s, p)
		}
	}
}

// B5: MaxDeep statements, expressions, types and operands in one another, and one more. (The statement is one, and its E.)
func TestDeep(t *testing.T) {
	most := api.MaxDeep - 2
	wantOK(t, nest("(", most, "1", ")")+";", nest("[", most, "1", "]")+";", nest("{a:", most, "1", "}")+";", nest("f(", most, "1", ")")+";", nest("a[", most, "1", "]")+";", nest("- ", most, "1", "")+";", nest("!", most, "x", "")+";", nest("typeof ", most, "x", "")+";")
	most++
	wantFault(t, api.ErrDeep, nest("(", most, "^1", ")")+";", nest("[", most, "^1", "]")+";", nest("{a:", most, "^1", "}")+";", nest("f(", most, "^1", ")")+";", nest("a[", most, "^1", "]")+";", nest("- ", most, "^1", "")+";", nest("!", most, "^x", "")+";", nest("typeof ", most, "^x", "")+";")
	wantFault(t, api.ErrDeep, nest("(", most, "^(1)", ")")+";", nest("-", most, "^-1", "")+";", nest("(", most, "^-1", ")")+";")
}

// B5: what is empty has nothing too deep in it, and what stands behind is not around.
func TestNotDeep(t *testing.T) {
	most := api.MaxDeep - 2
	wantOK(t, nest("[", most, "[]", "]")+";", nest("(", most, "{}", ")")+";", nest("(", most, "f()", ")")+";", nest("(", most, "fn() {}", ")")+";", nest("(", most, "fn(a) {}", ")")+";", nest("if (x) {", api.MaxDeep-1, "", "}"))
	wantOK(t, "x"+strings.Repeat(".a()", 100)+";", "1"+strings.Repeat(" + 1", 100)+";", "1"+strings.Repeat(" * -1", 100)+";", strings.Repeat("(1);", 100), strings.Repeat("if (1) { 1; }", 50), "x"+strings.Repeat(" as num", 50)+";", "let x: num"+strings.Repeat("|[num]", 50)+" = 1;")
}

// B5: statements in blocks, and functions (a statement and an E each), and types in them.
func TestDeepBlocks(t *testing.T) {
	most := api.MaxDeep - 2
	wantOK(t, nest("if (x) {", most, "print 1;", "}"), nest("while (x) {", most, "x = 1;", "}"), nest("fn() {", most/2, "1;", "};"), nest("if (x) {} else {", most, "1;", "}"))
	wantFault(t, api.ErrDeep,
		nest("if (x) {", most+1, "print ^1;", "}"), nest("if (x) {", most+1, "^1;", "}"), nest("if (x) {", most+1, "^x = 1;", ""),
		nest("if (x) {", most+1, "if (^x) {", "}"), nest("fn() {", most/2, "print -^1;", "};"), nest("fn() {", most/2, "(^1);", "};"), nest("fn() {", most/2+1, "^1;", "};"), nest("fn() {", most/2+1, "^let x = 1;", "};"))
	wantOK(t, "let x: "+nest("[", most, "num", "]")+" = 1;", nest("(", most-1, "1 as num", ")")+";", nest("(", most-1, "fn(a: num): num {}", ")")+";")
	wantFault(t, api.ErrDeep, "let x: "+nest("[", most+1, "^num", "]")+" = 1;", nest("(", most, "1 as ^num", ")")+";", nest("(", most, "fn(a: ^num) {}", ")")+";", nest("(", most, "fn(): ^num {}", ")")+";")
}

// B5: a type alone has nothing around it.
func TestDeepTypes(t *testing.T) {
	most := api.MaxDeep - 1
	for _, s := range []string{nest("[", most, "num", "]"), nest("(", most, "num", ")"), nest("{a:", most, "num", ";}"), nest("() => ", most, "num", ""), nest("(", most-1, "() => num", ")"), nest("[", most, "num | text", "]"), nest("[", most, "{}", "]")} {
		if types, fault := Type(s); fault != (api.Fault{}) {
			t.Errorf("Type(%q): %v %v", s, types, fault)
		}
	}
	wantTypeFault(t, api.ErrDeep, nest("[", most+1, "^num", "]"), nest("(", most+1, "^num", ")"), nest("{a:", most+1, "^num", ";}"), nest("() => ", most+1, "^num", ""), nest("(", most, "() => ^num", ")"), nest("[", most, "num | (^num)", "]"))
}

// B5, P1: the first fault counts, by its token; at one token ErrForm ahead of ErrDeep; those of Scan ahead of all.
func TestFirstFault(t *testing.T) {
	most := api.MaxDeep - 1
	wantFault(t, api.ErrForm, nest("(", most, "^)", ")")+";", nest("(", most, "^", ""), nest("-", most, "^;", ""), nest("if (x) {", most, "print ^;", "}"), nest("if (x) {", most, "if (^) {", ""), nest("fn() {", most/2+1, "^;", "};"), nest("(", most, "^num", ")")+";")
	wantTypeFault(t, api.ErrForm, nest("[", most+1, "^x", "]"), nest("[", most+1, "^]", ""))
	wantFault(t, api.ErrDeep, nest("(", most, "^1 2", "")+";;")
	wantFault(t, api.ErrForm, "1 ^2; "+nest("(", most, "1", ")")+";", "{ a ^2, a: 1 };", "1 ^= { a: 1, a: 1 };")
	wantFault(t, api.ErrTwice, "{ a: 1, ^a 1 = 2", "fn(a, ^a) { "+nest("(", most, "1", ")"), "{ a: 1, ^a: "+nest("(", most, "1", ")"))
	wantFault(t, api.ErrForm, "1 2 3; ^#", "; ^007", "{ a: 1, a: 2, ^\"", "; ^"+strings.Repeat("n", 21))
	wantFault(t, api.ErrMany, "^; #"+strings.Repeat(" ", api.MaxBytes), "; x"+strings.Repeat(";", api.MaxTokens-2)+"^;")
	wantTypeFault(t, api.ErrForm, "x x ^#")
	wantTypeFault(t, api.ErrMany, "^"+strings.Repeat(" ", api.MaxBytes+1), strings.Repeat("[", api.MaxTokens)+"^[")
}

// B5: MaxTypes types, and one more; another fault counts ahead of that, wherever it is.
func TestMaxTypes(t *testing.T) {
	most := "num" + strings.Repeat("|num", api.MaxTypes-2) // and the union
	if types, fault := Type(most); fault != (api.Fault{}) || len(types) != api.MaxTypes {
		t.Errorf("MaxTypes: %d types, %v", len(types), fault)
	}
	wantOK(t, "let x: "+most+" = 1;", " let x: num"+strings.Repeat("|num", api.MaxTypes-3)+" = 1 as any;")
	wantTypeFault(t, api.ErrMany, "^"+most+"|num", "^ "+most+"|num")
	wantFault(t, api.ErrMany, "^ let x: "+most+"|num = 1;", "^let x: "+most+" = 1 as num;")
	wantTypeFault(t, api.ErrForm, most+"|num|^")
	wantFault(t, api.ErrForm, "let x: "+most+"|num = 1; ^;")
	wantFault(t, api.ErrTwice, "let x: "+most+"|num = { a: 1, ^a: 2 };")
}

// B5: MaxNodes nodes, and one more. Each node has a token of its own, so that no text of MaxTokens tokens has so many: the nodes are laid ahead.
func TestMaxNodes(t *testing.T) {
	s := strings.Repeat("1;", api.MaxTokens/2)
	if p, fault := Parse(s); fault != (api.Fault{}) || len(p.Nodes) != api.MaxTokens+1 {
		t.Errorf("%d nodes, %v", len(p.Nodes), fault)
	}
	end := []api.Token{{Kind: api.TokenEnd}}
	p := &parser{tokens: end, nodes: make([]api.Node, api.MaxNodes-1)}
	if fault := p.whole(p.program); fault != (api.Fault{}) {
		t.Errorf("MaxNodes: %v", fault)
	}
	p = &parser{tokens: end, nodes: make([]api.Node, api.MaxNodes)}
	if fault := p.whole(p.program); fault != (api.Fault{Err: api.ErrMany}) {
		t.Errorf("one more than MaxNodes: %v", fault)
	}
}

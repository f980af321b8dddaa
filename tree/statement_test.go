package tree

import (
	"testing"

	"guardrail/api"
)

// B1: each statement.
func TestStatements(t *testing.T) {
	wantProgram(t, "")
	wantProgram(t, " \n")
	wantProgram(t, "let x = 1;", "(let@0 x (num@8 1))")
	wantProgram(t, "let x: num = 1;", "(let@0 x num (num@13 1))")
	wantProgram(t, "print 1; return x;", "(print@0 (num@6 1))", "(return@9 (var@16 x))")
	wantProgram(t, "if (x) {}", "(if@0 (var@4 x) (block@7))")
	wantProgram(t, "if (x) { 1; 2; } else { 3; }",
		"(if@0 (var@4 x) (block@7 (do@9 (num@9 1)) (do@12 (num@12 2))) (block@22 (do@24 (num@24 3))))")
	wantProgram(t, "while (x) { while (y) {} }", "(while@0 (var@7 x) (block@10 (while@12 (var@19 y) (block@22))))")
	wantProgram(t, "x; (x);", "(do@0 (var@0 x))", "(do@4 (var@4 x))")
	wantProgram(t, "{}; { a: 1 };", "(do@0 (obj@0))", "(do@4 (obj@4 (part@6 a (num@9 1))))")
}

// B1, B4: what is set, put or laid to has no number any more.
func TestSet(t *testing.T) {
	wantProgram(t, "x = 1; ((x)) = 2;", "(set@0 x (num@4 1))", "(set@9 x (num@15 2))")
	wantProgram(t, "a.b = 1; ((a).b) = 2;", "(put@0 b (var@0 a) (num@6 1))", "(put@11 b (var@11 a) (num@19 2))")
	wantProgram(t, "a[b] = 1; (a[b]) = 2;", "(lay@0 (var@0 a) (var@2 b) (num@7 1))", "(lay@11 (var@11 a) (var@13 b) (num@19 2))")
	wantProgram(t, "f().b[1].c = x == y;",
		"(put@0 c (at@0 (get@0 b (call@0 (var@0 f))) (num@6 1)) (two@13 == (var@13 x) (var@18 y)))")
	wantProgram(t, "{ a: 1 }.a = 2;", "(put@0 a (obj@0 (part@2 a (num@5 1))) (num@13 2))")
	p, _ := Parse("let x = 1; x = x + 2;")
	if len(p.Nodes) != 7 || p.Main != 6 {
		t.Errorf("%d nodes, want 7", len(p.Nodes))
	}
}

// B1, B5: what can't stand where a statement does.
func TestNoStatement(t *testing.T) {
	wantFault(t, api.ErrForm,
		"^;", "^}", "^else {}", "^) 1;", "^= 1;", "^num;", "^as;", "^, 1;", "1; ^;", "1; ^}",
		"let ^1 = 2;", "let ^num = 1;", "let ^= 1;", "let x^;", "let x ^1;", "let x ^== 1;", "let x: ^= 1;", "let x: num ^;", "let x = ^;", "let x = 1^", "let x = 1 ^let y = 2;",
		"print ^;", "print^", "print 1 ^2;", "print 1 ^= 2;", "print x ^= 2;", "return ^;", "return 1^}",
		"if ^x {}", "if (^) {}", "if (x ^{}", "if (x) ^1;", "if (x) {^", "if (x) {} else ^if (y) {}", "if (x) {} else {} ^else {}", "if (x ^= 1) {}",
		"while ^{}", "while (x) ^;", "while (x) {} ^else {}",
		"x^", "x ^y;", "x ^: 1;", "{ ^print 1; }")
}

// B1: what can't be set.
func TestNoSet(t *testing.T) {
	wantFault(t, api.ErrForm,
		"1 ^= 2;", "\"x\" ^= 2;", "null ^= 1;", "f() ^= 1;", "-x ^= 1;", "!a.b ^= 1;", "[x] ^= 1;", "{} ^= 1;", "fn() {} ^= 1;", "x + y ^= 1;", "(x + y) ^= 1;", "x == y ^= 1;", "a.b as num ^= 1;", "(x as num) ^= 1;",
		"(x ^= 1);", "f(x ^= 1);", "x = y ^= 1;", "x = ^= 1;", "x = ^;", "x = 1^", "(x) = (y) ^= 1;")
}

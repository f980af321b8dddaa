package tree

import (
	"regexp"
	"testing"

	"guardrail/api"
)

var place = regexp.MustCompile("@[0-9]+")

// wantDo: the text with a `;` is a NodeDo of this, at the same place.
func wantDo(t *testing.T, s, want string) {
	t.Helper()
	wantProgram(t, s+";", "(do"+place.FindString(want)+" "+want+")")
}

// B2: simple expressions.
func TestSimple(t *testing.T) {
	wantDo(t, "0", "(num@0 0)")
	wantDo(t, "999999999", "(num@0 999999999)")
	wantDo(t, `"a b"`, "(txt@0 a b)")
	wantDo(t, `""`, "(txt@0)")
	wantDo(t, "true", "(bool@0 1)")
	wantDo(t, "false", "(bool@0 0)")
	wantDo(t, "null", "(null@0)")
	wantDo(t, "x", "(var@0 x)")
	wantDo(t, "((x))", "(var@2 x)")
	wantDo(t, "[]", "(arr@0)")
	wantDo(t, "[1, [2], x]", "(arr@0 (num@1 1) (arr@4 (num@5 2)) (var@9 x))")
	wantDo(t, "{}", "(obj@0)")
	wantDo(t, "{ a: 1, b: { a: 2 } }", "(obj@0 (part@2 a (num@5 1)) (part@8 b (obj@11 (part@13 a (num@16 2)))))")
}

// B2: functions.
func TestFunction(t *testing.T) {
	wantDo(t, "fn() {}", "(fn@0 (block@5))")
	wantDo(t, "fn(a) { return a; }", "(fn@0 (param@3 a) (block@6 (return@8 (var@15 a))))")
	wantDo(t, "fn(a: num, b, c: [any]): text | null { 1; }",
		"(fn@0 (param@3 a num) (param@11 b) (param@14 c [any]) (block@37 (do@39 (num@39 1))) (text|null))")
	wantDo(t, "fn(a) { fn(a) {}; }", "(fn@0 (param@3 a) (block@6 (do@8 (fn@8 (param@11 a) (block@14)))))")
	wantFault(t, api.ErrForm, "fn ^x() {};", "fn(^1) {};", "fn(^num) {};", "fn(a ^b) {};", "fn(a,^) {};", "fn(^, a) {};", "fn(a: ^) {};", "fn(a)^;", "fn(a): ^;", "fn(a): num ^;", "fn(a) {}^", "fn(x ^{};")
}

// B2: what stands behind a simple expression, as often as it does.
func TestTail(t *testing.T) {
	wantDo(t, "f()", "(call@0 (var@0 f))")
	wantDo(t, "f(1, x + 2)", "(call@0 (var@0 f) (num@2 1) (two@5 + (var@5 x) (num@9 2)))")
	wantDo(t, "a.b.c", "(get@0 c (get@0 b (var@0 a)))")
	wantDo(t, "a[1][2]", "(at@0 (at@0 (var@0 a) (num@2 1)) (num@5 2))")
	wantDo(t, "x as num as any", "(as@0 (as@0 (var@0 x) num) any)")
	wantDo(t, "x as num | text", "(as@0 (var@0 x) (num|text))")
	wantDo(t, "x as () => num | text", "(as@0 (var@0 x) <>(num|text))")
	wantDo(t, "x as [num][0]", "(at@0 (as@0 (var@0 x) [num]) (num@11 0))")
	wantDo(t, "x as (num)(1)", "(call@0 (as@0 (var@0 x) num) (num@11 1))")
	wantDo(t, "x as {}.a", "(get@0 a (as@0 (var@0 x) {}))")
	wantDo(t, "a.b(1)[2] as num.c", "(get@0 c (as@0 (at@0 (call@0 (get@0 b (var@0 a)) (num@4 1)) (num@7 2)) num))")
	wantDo(t, "fn() {}()", "(call@0 (fn@0 (block@5)))")
	wantDo(t, "{}.a", "(get@0 a (obj@0))")
	wantDo(t, "[1][0]", "(at@0 (arr@0 (num@1 1)) (num@4 0))")
	wantDo(t, "1.a", "(get@0 a (num@0 1))")
	wantDo(t, "(a + b).c", "(get@1 c (two@1 + (var@1 a) (var@5 b)))")
	wantDo(t, `"("("[")`, `(call@0 (txt@0 () (txt@4 [))`)
}

// B2: signs ahead of an expression bind more than those between, and less than what stands behind.
func TestOne(t *testing.T) {
	wantDo(t, "!x", "(one@0 ! (var@1 x))")
	wantDo(t, "-1", "(one@0 - (num@1 1))")
	wantDo(t, "typeof x", "(one@0 typeof (var@7 x))")
	wantDo(t, "-!typeof--x", "(one@0 - (one@1 ! (one@2 typeof (one@8 - (one@9 - (var@10 x))))))")
	wantDo(t, "-a.b", "(one@0 - (get@1 b (var@1 a)))")
	wantDo(t, "-x as num", "(one@0 - (as@1 (var@1 x) num))")
	wantDo(t, "(-a).b", "(get@1 b (one@1 - (var@2 a)))")
	wantDo(t, "-a * -b", "(two@0 * (one@0 - (var@1 a)) (one@5 - (var@6 b)))")
	wantDo(t, "a - -b", "(two@0 - (var@0 a) (one@4 - (var@5 b)))")
	wantDo(t, "-(a + b)", "(one@0 - (two@2 + (var@2 a) (var@6 b)))")
	wantDo(t, "!a == b", "(two@0 == (one@0 ! (var@1 a)) (var@6 b))")
}

// B2: signs between expressions: * binds more than + and -, these more than == and <; the left ones first.
func TestTwo(t *testing.T) {
	wantDo(t, "a+b-c", "(two@0 - (two@0 + (var@0 a) (var@2 b)) (var@4 c))")
	wantDo(t, "a-(b-c)", "(two@0 - (var@0 a) (two@3 - (var@3 b) (var@5 c)))")
	wantDo(t, "a*b*c", "(two@0 * (two@0 * (var@0 a) (var@2 b)) (var@4 c))")
	wantDo(t, "a+b*c", "(two@0 + (var@0 a) (two@2 * (var@2 b) (var@4 c)))")
	wantDo(t, "a*b+c", "(two@0 + (two@0 * (var@0 a) (var@2 b)) (var@4 c))")
	wantDo(t, "(a+b)*c", "(two@1 * (two@1 + (var@1 a) (var@3 b)) (var@6 c))")
	wantDo(t, "a<b+c", "(two@0 < (var@0 a) (two@2 + (var@2 b) (var@4 c)))")
	wantDo(t, "a+b==c*d", "(two@0 == (two@0 + (var@0 a) (var@2 b)) (two@5 * (var@5 c) (var@7 d)))")
	wantDo(t, "(a<b)==c", "(two@1 == (two@1 < (var@1 a) (var@3 b)) (var@7 c))")
	wantFault(t, api.ErrForm, "a < b ^< c;", "a == b ^== c;", "a < b ^== c;", "a == b + c ^< d;")
}

// B2, B5: what can't stand in an expression.
func TestNoExpression(t *testing.T) {
	wantFault(t, api.ErrForm,
		"(^);", "(1^;", "(1 ^2);", "(1^, 2);", "(^let);", "(^num);", "(^as);",
		"[1,^];", "[^, 1];", "[1 ^2];", "[1^;", "[1^", "[^", "[1^);",
		"{ ^1: 2 };", "{ a ^};", "{ a: ^};", "{ a: 1,^};", "{ a: 1^; };", "{ ^\"a\": 1 };", "{ ^num: 1 };", "{ ^, };", "{^",
		"f(1,^);", "f(^, 1);", "f(1 ^2);", "f(1^];", "a.^1;", "a.^num;", "a.^;", "a.^\"b\";", "a[^];", "a[1^, 2];", "a[1^);", "a as ^b;", "a as ^;", "a as ^1;", "a as num ^=> num;",
		"1 + ^;", "1 + ^* 2;", "^+ 1;", "1 ^!2;", "1 * ^", "! ^;", "-^", "typeof ^;", "- ^+ 1;", "x ^fn() {};", "1 < ^< 2;", "x ^typeof y;", "x ^true;", "x ^\"(\";")
}

// B2, B5: a name that is there already, in an object or among params; in others, and elsewhere, it may be.
func TestTwice(t *testing.T) {
	wantFault(t, api.ErrTwice,
		"{ a: 1, ^a: 2 };", "{ a: 1, b: 2, ^a 1", "{ a: 1, b: 2, ^b", "{ a: { a: 1, b: 2, ^b: 3 }, a: 1 };",
		"fn(a, ^a) {};", "fn(a, b, c: num, ^b: num) {};", "fn(a, ^a", "fn(a) { fn(b, ^b) {}; };")
	wantDo(t, "{ a: { a: 1 }, b: { a: 2 } }", "(obj@0 (part@2 a (obj@5 (part@7 a (num@10 1)))) (part@15 b (obj@18 (part@20 a (num@23 2)))))")
	wantProgram(t, "let x = 1; let x = 2;", "(let@0 x (num@8 1))", "(let@11 x (num@19 2))")
	wantDo(t, "[a, a]", "(arr@0 (var@1 a) (var@4 a))")
}

package show

import (
	"strings"
	"testing"

	"guardrail/api"
)

// wantPrint: s is printed as these lines, and these as themselves (C4).
func wantPrint(t *testing.T, s string, lines ...string) {
	t.Helper()
	want := ""
	for _, line := range lines {
		want += line + "\n"
	}
	for _, text := range []string{s, want} {
		if got, fault := Print(text); got != want || fault != (api.Fault{}) {
			t.Errorf("Print(%q) is\n%s%v, and must be\n%s", text, got, fault, want)
		}
	}
}

// wantKept: each of these E is printed as it stands here.
func wantKept(t *testing.T, all ...string) {
	t.Helper()
	for _, e := range all {
		wantPrint(t, e+";", e+";")
	}
}

// wantLess: an E, and what is left of it when it is printed.
func wantLess(t *testing.T, e, want string) {
	t.Helper()
	wantPrint(t, "print "+e+";", "print "+want+";")
}

// C1: each statement has its own line.
func TestStatements(t *testing.T) {
	wantPrint(t, "")
	wantPrint(t, " \n ")
	wantPrint(t, "let x=1;let y:num=x;", "let x = 1;", "let y: num = x;")
	wantPrint(t, "print\n1\n;return x;", "print 1;", "return x;")
	wantPrint(t, "x=1;x.a=2;x[0]=3;x;", "x = 1;", "x.a = 2;", "x[0] = 3;", "x;")
	wantPrint(t, "(x)=1;((x.a))=2;((x)[0])=3;(x);", "x = 1;", "x.a = 2;", "x[0] = 3;", "x;")
	wantPrint(t, "(-x).a=1;(x+y)[0]=1;(x as num).a=1;", "(-x).a = 1;", "(x + y)[0] = 1;", "x as num.a = 1;")
	wantPrint(t, "{}.a=1;{};{a:1};", "{}.a = 1;", "{};", "{ a: 1 };")
}

// C1: blocks: two blanks for each around, and their ends.
func TestBlocks(t *testing.T) {
	wantPrint(t, "if(1){}", "if (1) {", "}")
	wantPrint(t, "while(x<1){x=2;}", "while (x < 1) {", "  x = 2;", "}")
	wantPrint(t, "if(1){print 1;print 2;}else{}print 3;", "if (1) {", "  print 1;", "  print 2;", "} else {", "}", "print 3;")
	wantPrint(t, "if(1){if(2){print 1;}else{while(3){}}}else{print 2;}",
		"if (1) {", "  if (2) {", "    print 1;", "  } else {", "    while (3) {", "    }", "  }", "} else {", "  print 2;", "}")
}

// C1: a function's block ends behind as many blanks as its statement's line has, wherever the function stands.
func TestFunctions(t *testing.T) {
	wantPrint(t, "fn(){};", "fn() {", "};")
	wantPrint(t, "let f=fn(a,b:num):text|null{return a;};", "let f = fn(a, b: num): text | null {", "  return a;", "};")
	wantPrint(t, "fn(a:{}):{}{}();", "fn(a: {}): {} {", "}();")
	wantPrint(t, "f(fn(){1;},[fn(){}],{a:fn(){2;}});", "f(fn() {", "  1;", "}, [fn() {", "}], { a: fn() {", "  2;", "} });")
	wantPrint(t, "if(fn(){}){return fn(){return fn(){};};}",
		"if (fn() {", "}) {", "  return fn() {", "    return fn() {", "    };", "  };", "}")
	wantPrint(t, "print!fn(){}+fn(){}.a;", "print !fn() {", "} + fn() {", "}.a;")
}

// C1: blanks between the tokens of a line.
func TestBlanks(t *testing.T) {
	wantKept(t, "x", "0", "999999999", `""`, `"  a ( ;"`, "true", "false", "null", "[]", "[1]", "[1, 2, [3]]", "{}", "{ a: 1 }", "{ a: {}, b: { c: 1 } }")
	wantKept(t, "f()", "f(1, x)", "a.b.c", "a[0][1]", "f(1)(2).a[3]", "1.a", `"a".b`, "[1][0]", "{}.a", "{ a: 1 }.a", "{}()")
	wantKept(t, "!x", "-x", "--x", "-!-x", "typeof x", "typeof -x", "-typeof x", "typeof typeof x", "!{}", "-[1]", "typeof {}", "typeof [1]")
	wantKept(t, "a + b", "a - b", "a * b", "a == b", "a < b", "a - -b", "a * !b", "a[-1]", "f(-1, !x)", "[-1, !x]", "{ a: -1 }")
	wantKept(t, "x as num", "x as num as text", "x as [num][0]", "x as {}.a", "x as num(1)", "x as (num) => num(1)", "x as num + 1", "x as num | text == 1")
	wantLess(t, "typeof(x)", "typeof x")
	wantLess(t, "1as num", "1 as num")
	wantLess(t, "typeof(1+2)", "typeof (1 + 2)")
	wantLess(t, "-(1+2)", "-(1 + 2)")
	wantLess(t, "!(1+2)", "!(1 + 2)")
}

// C2: brackets about the parts of signs.
func TestBracketsOfSigns(t *testing.T) {
	wantKept(t, "a + b * c", "(a + b) * c", "a * (b + c)", "a * b + c", "a - b - c", "a - (b - c)", "a + (b + c)", "a * (b * c)", "a * b * c")
	wantKept(t, "(a == b) == c", "a == (b == c)", "(a < b) < c", "a < (b < c)", "(a < b) == c", "a < (b == c)", "(a < b) + c", "a * (b == c)", "(a == b) == (c < d)")
	wantKept(t, "a + b == c - d", "a * b < -c", "-(a * b)", "-(a + b)", "!(a == b)", "typeof (a < b)", "-a * -b", "-a + b")
	wantLess(t, "(a + b) + c", "a + b + c")
	wantLess(t, "(a * b) * c", "a * b * c")
	wantLess(t, "(a * b) + (c * d)", "a * b + c * d")
	wantLess(t, "(a + b) == (c - d)", "a + b == c - d")
	wantLess(t, "(-a) * (-b)", "-a * -b")
	wantLess(t, "-(-(a))", "--a")
	wantLess(t, "!(typeof(-a))", "!typeof -a")
	wantLess(t, "(((a)))", "a")
	wantLess(t, "(a)+(1)*(\"t\")", `a + 1 * "t"`)
}

// C2: brackets about what something stands behind, and what needs none.
func TestBracketsOfHeads(t *testing.T) {
	for _, tail := range []string{"(1)", ".a", "[1]", " as num"} {
		wantKept(t, "(a + b)"+tail, "(a == b)"+tail, "(-a)"+tail, "(typeof a)"+tail, "-a"+tail, "a + b"+tail)
		for _, head := range []string{"a", "1", `"t"`, "null", "[1]", "{ a: 1 }", "{}", "a(1)", "a.b", "a[1]", "a as num", "a as num | text", "a as () => num"} {
			wantLess(t, "("+head+")"+tail, head+tail)
		}
		wantPrint(t, "(fn(){})"+tail+";", "fn() {", "}"+tail+";")
	}
	wantLess(t, "f((a + b), ((a) == b))", "f(a + b, a == b)")
	wantLess(t, "a[(1 + 2)]", "a[1 + 2]")
	wantLess(t, "[(a == b), (-c)]", "[a == b, -c]")
	wantLess(t, "{ a: (b == c) }", "{ a: b == c }")
	wantPrint(t, "if ((a)) {} while ((a == b)) {} let x = (1 + 2); x = (1); x.a = (1 == 2); x[(0)] = (-1); return (1);",
		"if (a) {", "}", "while (a == b) {", "}", "let x = 1 + 2;", "x = 1;", "x.a = 1 == 2;", "x[0] = -1;", "return 1;")
}

// C1, C3: types in a program are written as they are alone.
func TestTypesOfPrograms(t *testing.T) {
	for s, want := range writtenTypes() {
		wantPrint(t, "let x:"+s+"=1;", "let x: "+want+" = 1;")
		wantPrint(t, "print x as "+s+";", "print x as "+want+";")
		wantPrint(t, "fn(a:"+s+"):"+s+"{};", "fn(a: "+want+"): "+want+" {", "};")
	}
}

// writtenTypes: types, and how they are written anew.
func writtenTypes() map[string]string {
	return map[string]string{
		"num": "num", "bool": "bool", "text": "text", "null": "null", "any": "any", "unknown": "unknown",
		"(num)": "num", "((num))": "num", "[num]": "[num]", "[[(num)]]": "[[num]]", "{}": "{}", "{a:num;}": "{ a: num; }",
		"{b:num;a:[text];}": "{ b: num; a: [text]; }", "{a:{};b:{c:any;};}": "{ a: {}; b: { c: any; }; }",
		"num|text|num": "num | text | num", "(num|text)|null": "(num | text) | null", "num|(text|null)": "num | (text | null)",
		"(num|text)": "num | text", "[(num|text)]": "[num | text]", "{a:(num|text);}": "{ a: num | text; }",
		"()=>num": "() => num", "(num)=>num": "(num) => num", "((num))=>(num)": "(num) => num", "(num,text)=>bool": "(num, text) => bool",
		"()=>num|text": "() => num | text", "()=>(num|text)": "() => num | text", "(()=>num)|text": "(() => num) | text",
		"text|()=>num": "text | () => num", "text|(()=>num)": "text | () => num", "text|(()=>num)|null": "text | (() => num) | null",
		"(()=>num)|(()=>text)": "(() => num) | () => text", "text|()=>num|null": "text | () => num | null",
		"((num|text),(()=>num))=>any": "(num | text, () => num) => any", "(()=>num)=>num": "(() => num) => num",
		"()=>(()=>num)": "() => () => num", "[(()=>num)]": "[() => num]", "{f:(()=>num);}": "{ f: () => num; }",
		"(text|()=>num)|null": "(text | () => num) | null", "()=>text|(()=>num)": "() => text | () => num",
	}
}

// C3, C4: types alone.
func TestType(t *testing.T) {
	for s, want := range writtenTypes() {
		for _, text := range []string{s, want, " " + s + "\n"} {
			if got, fault := Type(text); got != want || fault != (api.Fault{}) {
				t.Errorf("Type(%q): %q %v, want %q", text, got, fault, want)
			}
		}
	}
}

// C1, P1: faults are those of Parse, and no text comes with them.
func TestPrintFaults(t *testing.T) {
	for s, want := range map[string]api.Fault{
		"print 1":                         {Err: api.ErrForm, At: 7},
		"1 = 2;":                          {Err: api.ErrForm, At: 2},
		"print 007;":                      {Err: api.ErrForm, At: 6},
		"print { a: 1, a: 2 }":            {Err: api.ErrTwice, At: 14},
		"let x: { a: num; a: num; } = 1;": {Err: api.ErrTwice, At: 17},
		strings.Repeat("(", 20) + "1":     {Err: api.ErrDeep, At: 19},
		strings.Repeat(" ", 4001):         {Err: api.ErrMany},
		strings.Repeat("x;", 501):         {Err: api.ErrMany, At: 1000},
		"\xff":                            {Err: api.ErrForm},
	} {
		if got, fault := Print(s); got != "" || fault != want {
			t.Errorf("Print(%.40q): %q %v, want %v", s, got, fault, want)
		}
	}
}

// C1: MaxBytes bytes may be printed, and no more.
func TestPrintTooLong(t *testing.T) {
	block := "if(1){" + strings.Repeat("aaaaaaaaaaaaaaaaa;", 189) + "}"
	const bytes = 9 + 189*21 + 2 // of the block: each line in it is three longer than it was
	for n := 1; bytes+n+2 <= api.MaxBytes; n++ {
		if got, fault := Print(block + strings.Repeat("b", n) + ";"); len(got) != bytes+n+2 || fault != (api.Fault{}) {
			t.Errorf("what is %d bytes: %d, %v", bytes+n+2, len(got), fault)
		}
	}
	for n := api.MaxBytes - bytes - 1; n <= 20; n++ {
		if got, fault := Print(block + strings.Repeat("b", n) + ";"); got != "" || fault != (api.Fault{Err: api.ErrMany}) {
			t.Errorf("what would be %d bytes: %d, %v", bytes+n+2, len(got), fault)
		}
	}
}

// C3: a type alone may be longer than MaxBytes when it is written anew: its faults are those of chapter 2.
func TestLongType(t *testing.T) {
	s, want := "{", "{"
	for i := range 240 {
		name := "field_no_" + string([]byte{'a' + byte(i/26), 'a' + byte(i%26)})
		s += name + ":num;"
		want += " " + name + ": num;"
	}
	s, want = s+"}", want+" }"
	if got, fault := Type(s); len(want) <= api.MaxBytes || got != want || fault != (api.Fault{}) {
		t.Errorf("a type of %d bytes, %d anew: %d, %v", len(s), len(want), len(got), fault)
	}
}

// C3, P1: faults of types alone.
func TestTypeFaults(t *testing.T) {
	for s, want := range map[string]api.Fault{
		"":                                  {Err: api.ErrForm},
		"num |":                             {Err: api.ErrForm, At: 5},
		"num;":                              {Err: api.ErrForm, At: 3},
		"{ a: num }":                        {Err: api.ErrForm, At: 9},
		"(num, text)":                       {Err: api.ErrForm, At: 11},
		"{ a: num; a: num; }":               {Err: api.ErrTwice, At: 10},
		strings.Repeat("[", 21):             {Err: api.ErrDeep, At: 20},
		strings.Repeat("num|", 400):         {Err: api.ErrForm, At: 1600},
		strings.Repeat("num|", 300) + "num": {Err: api.ErrMany},
		strings.Repeat(" ", 4001):           {Err: api.ErrMany},
	} {
		if got, fault := Type(s); got != "" || fault != want {
			t.Errorf("Type(%.40q): %q %v, want %v", s, got, fault, want)
		}
	}
}

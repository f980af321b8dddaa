package run

import (
	"fmt"
	"slices"
	"strings"
	"testing"

	"guardrail/api"
)

// I4: each operation, of each kind of value: those that can't do it are WRONG, at the operation's node.
func TestWrong(t *testing.T) {
	for _, x := range []struct{ s, kind, can string }{
		{"print ^x.a;", "get", "object"},
		{"print ^x.length;", "get", "object array"},
		{"print ^x[0];", "at", "array"},
		{"print ^y[x];", "at", "num"},
		{"^x.a = 1;", "put", "object"},
		{"^x.length = 1;", "put", "object"},
		{"^x[0] = 1;", "lay", "array"},
		{"^y[x] = 1;", "lay", "num"},
		{"^x();", "call", "function"},
		{"print ^-x;", "one", "num"},
		{"print ^x + 1;", "two", "num"},
		{"print ^n + x;", "two", "num"},
		{"print ^x + \"t\";", "two", "text"},
		{"print ^s + x;", "two", "text"},
		{"print ^x - 1;", "two", "num"},
		{"print ^1 - x;", "two", "num"},
		{"print ^x * 1;", "two", "num"},
		{"print ^1 * x;", "two", "num"},
		{"print ^x < 1;", "two", "num"},
		{"print ^1 < x;", "two", "num"},
	} {
		for _, v := range values() {
			s := "let n: any = 1; let s: any = \"s\"; let y: any = [1, 2]; let x: any = " + v.e + "; " + x.s
			if !slices.Contains(strings.Fields(x.can), v.kind) {
				wantRun(t, s, "wrong "+x.kind)
				continue
			}
			s = strings.Replace(s, "^", "", 1)
			if o, fault := Run(s, api.RunBare, 100); o.End != api.EndDone || fault.Err != api.OK {
				t.Errorf("Run(%q): %v %v", s, o, fault)
			}
		}
	}
}

// I4: both parts that are no numbers, or texts, are WRONG too; and never what all values can.
func TestWrongBoth(t *testing.T) {
	for _, sign := range []string{"+", "-", "*", "<"} {
		for _, v := range values()[3:] {
			wantRun(t, "let x: any = "+v.e+"; print ^x "+sign+" x;", "wrong two")
		}
		wantRun(t, "let x: any = true; print ^x "+sign+" x;", "wrong two")
	}
	for _, sign := range []string{"-", "*", "<"} {
		wantRun(t, "let x: any = \"t\"; print ^x "+sign+" x;", "wrong two")
	}
	for _, v := range values() {
		wantRun(t, "let x: any = "+v.e+"; x == 1; !x; typeof x; x as any; if (x) {} while (!x == 1) {} [x]; { a: x }; x;", "done")
	}
}

// I4: places that an array has not.
func TestWrongPlace(t *testing.T) {
	for _, place := range []string{"3", "4", "999999999", "0 - 1", "-2", "-999999999 - 999999999"} {
		wantRun(t, "let l: any = [1, 2]; ^l["+place+"] = 1;", "wrong lay")
		wantRun(t, "let l: any = [1, 2]; print l["+place+"];", "null done")
	}
	wantRun(t, "let l: any = [1, 2]; l[0] = 9; print l[0]; print l[1]; print l.length;", "9 2 2 done")
	wantRun(t, "let l: any = [1, 2]; l[1] = 9; print l[0]; print l[1]; print l.length;", "1 9 2 done")
	wantRun(t, "let l: any = [1, 2]; l[2] = 9; print l[1]; print l[2]; print l.length;", "2 9 3 done")
	wantRun(t, "let l: any = []; ^l[1] = 1;", "wrong lay")
	wantRun(t, "let l: any = []; ^l[-1] = 1;", "wrong lay")
	wantRun(t, "let l: any = []; l[0] = 1; l[0] = 2; print l.length;", "1 done")
}

// I4: an operation is asked when its parts are there, so that they come ahead of what is WRONG with it.
func TestWrongLast(t *testing.T) {
	wantRun(t, tell+"let x: any = 1; ^x(tell(1, 1), tell(2, 2));", "1 2 wrong call")
	wantRun(t, tell+"let x: any = 1; ^x.a = tell(1, 1);", "1 wrong put")
	wantRun(t, tell+"let x: any = 1; ^x[tell(1, 0)] = tell(2, 2);", "1 2 wrong lay")
	wantRun(t, tell+"let x: any = 1; print ^x[tell(1, 0)];", "1 wrong at")
	wantRun(t, tell+"let x: any = true; print ^x - tell(1, 0);", "1 wrong two")
	wantRun(t, tell+"let x: any = true; print ^x + tell(1, 0);", "1 wrong two")
	wantRun(t, "let x: any = true; print x - ^-x;", "wrong one")
	wantRun(t, "let x: any = true; print 1; let f = fn() { print 2; ^x(); print 3; }; f(); print 4;", "1 2 wrong call")
}

// I4: guards look just behind what yields it; each that holds is an event, in their order.
func TestGuards(t *testing.T) {
	wantGuarded(t, "let x: any = 1; let y: num = x; print x as num; y = x; print 2;", "1 2 done", "var29num var38num var52num")
	wantGuarded(t, "let x: any = true; print 1; let y: num = ^x; print 2;", "1 guard var", "")
	wantGuarded(t, tell+"let g = fn(a: num, b: num) {}; g(tell(1, 1), ^tell(2, null));", "1 2 guard call", "call83num")
	wantGuarded(t, tell+"let g = fn(a: num, b: num) {}; g(^tell(1, null), tell(2, 1));", "1 guard call", "")
	wantGuarded(t, "let f = fn(): num { print 1; }; print 2; ^f(); print 3;", "2 1 guard call", "")
	wantGuarded(t, "let f = fn(x): num { return ^x; }; print f(1); print f(true);", "1 guard var", "var28num call40num")
	wantGuarded(t, "let o = { a: 1 as any, b: 2 }; (o as any).b = null; print o.a; print ^o.b;", "1 guard get", "")
	wantGuarded(t, "let l = [1]; print l[0]; print ^l[1];", "1 guard at", "at19num")
	wantGuarded(t, "let x: any = 1; let o = { a: 1 }; o.a = x; x = null; o.a = ^x;", "guard var", "var40num")
	wantGuarded(t, "let x: any = 1; let l = [1]; l[0] = x; l[1] = x; x = null; l[7] = ^x;", "guard var", "var36num var46num")
	const all = "num | bool | text | null | {} | [num] | () => num"
	for _, v := range values() {
		of := map[string]string{"object": "{}", "array": "[num]", "function": "() => num"}[v.kind]
		if of == "" {
			of = v.kind
		}
		begin := "let x: any = " + v.e + "; "
		wantGuarded(t, begin+"print typeof (x as "+of+");", v.kind+" done", fmt.Sprint("var", len(begin)+14, v.kind))
		others := strings.TrimSuffix(strings.Replace(all+" | ", of+" | ", "", 1), " | ")
		wantGuarded(t, begin+"print typeof (^x as "+others+");", "guard var", "")
	}
}

// I4: guards of params: ahead of the function's block, from the left; of missing ones too; of those that are left out none.
func TestParamGuards(t *testing.T) {
	const f = "let f: any = fn(a: num, b, c: text | null) { print 1; }; "
	wantGuarded(t, f+"f(1, 2, \"t\"); f(1); f(1, 2, null, 4);", "1 1 1 done", "param16num param27text param16num param27null param16num param27null")
	wantGuarded(t, strings.Replace(f, "a:", "^a:", 1)+"f(null, 2, 3);", "guard param", "")
	wantGuarded(t, strings.Replace(f, "c:", "^c:", 1)+"f(1, 2, 3);", "guard param", "param16num")
	wantGuarded(t, strings.Replace(f, "a:", "^a:", 1)+"f();", "guard param", "")
	wantGuarded(t, "let f = fn(^a: num) { print 1; }; let g: any = f; f(2); g(\"\");", "1 guard param", "param11num")
	wantGuarded(t, tell+"let f: any = fn(^a: num) {}; f(tell(1, true), tell(2, 2));", "1 2 guard param", "")
	wantWay(t, f+"f(true, 2, 3); f();", api.RunBare, 100, "1 1 done")
	wantWay(t, strings.Replace(f, "a:", "^a:", 1)+"f(1); f();", api.RunFewer, 100, "1 guard param")
}

// costs: programs, and what they cost.
func costs() []struct {
	s    string
	cost int
} {
	return []struct {
		s    string
		cost int
	}{
		{"", 0}, {"1;", 2}, {"\"t\";", 2}, {"true;", 2}, {"null;", 2}, {"((1));", 2},
		{"let x = 1;", 2}, {"let x = 1; x;", 4}, {"let x = 1; x = 2;", 4}, {"let x: num = 1 as num;", 3},
		{"{};", 2}, {"{ a: 1, b: 2 };", 4}, {"[];", 2}, {"[1, 2, 3];", 5}, {"fn() { 1; };", 2}, {"fn(a, b: num) {};", 2},
		{"1 + 2;", 4}, {"1 == 2;", 4}, {"1 < 2 - 3;", 6}, {"-1;", 3}, {"!!1;", 4}, {"typeof 1;", 3}, {"1 as num as any;", 4},
		{"{ a: 1 }.a;", 4}, {"[1].length;", 4}, {"[1][0];", 5}, {"{ a: 1 }.a = 2;", 4}, {"[1][0] = 2;", 5}, {"[][0] = 2;", 4},
		{"fn() {}();", 3}, {"fn() { 1; }();", 5}, {"fn() { return 1; }();", 5}, {"fn() { return 1; 2; }();", 5}, {"fn(a, b: num) {}(1, 2);", 5}, {"(fn() {} as any)(1, 2);", 6},
		{"if (true) {}", 2}, {"if (true) { 1; } else { 2; 3; }", 4}, {"if (null) { 1; } else { 2; 3; }", 6}, {"if (null) { 1; }", 2},
		{"while (null) { 1; }", 2}, {"let i = 0; while (i < 2) { i = i + 1; }", 2 + 1 + 3*3 + 2*4}, {"fn() { while (1) { return 1; } }();", 7},
		{"let f = fn() { if (true) { if (true) {} } }; f(); f();", 2 + 2*(3+4)},
	}
}

// I4: each statement but a block, and each expression, costs 1; when more than the fuel would be spent, the run is over.
func TestFuel(t *testing.T) {
	for _, x := range costs() {
		for _, way := range ways() {
			wantWay(t, x.s, way, x.cost, "done")
			wantWay(t, x.s, way, x.cost+1, "done")
			if x.cost > 0 {
				wantWay(t, x.s, way, x.cost-1, "fuel")
				wantWay(t, x.s, way, 0, "fuel")
			}
		}
	}
	wantWay(t, "while (true) {}", api.RunBare, api.MaxFuel, "fuel")
	wantWay(t, "let f = fn() { while (1) { return 1; } }; while (1) { f(); }", api.RunBare, api.MaxFuel, "fuel")
	if o, _ := Run("while (true) { print 1; }", api.RunBare, api.MaxFuel); o.End != api.EndFuel || o.Node != -1 || len(o.Lines) != (api.MaxFuel-1)/3 {
		t.Errorf("%d lines, and ends %d at %d", len(o.Lines), o.End, o.Node)
	}
}

// I4: it costs when it begins: what is WRONG, or does not hold, or is too many, comes behind that.
func TestFuelFirst(t *testing.T) {
	const s = "print 1; let x: any = true; print 2; print ^-x;"
	wantWay(t, s, api.RunBare, 9, "1 2 wrong one")
	for fuel, want := range []string{"fuel", "fuel", "1 fuel", "1 fuel", "1 fuel", "1 fuel", "1 2 fuel", "1 2 fuel", "1 2 fuel"} {
		wantWay(t, strings.Replace(s, "^", "", 1), api.RunBare, fuel, want)
	}
	const guarded = "let x: any = 1; let y: text = ^x;"
	wantWay(t, guarded, api.RunAll, 4, "guard var")
	wantWay(t, strings.Replace(guarded, "^", "", 1), api.RunAll, 3, "fuel")
	const param = "let f: any = fn(^x: text) {}; f(1);"
	wantWay(t, param, api.RunAll, 6, "guard param")
	wantWay(t, strings.Replace(param, "^", "", 1), api.RunAll, 5, "fuel")
}

// down has a function that calls itself, so that as many calls are within each other as it is handed.
const down = "let f = fn(n: num) { if (n == 1) { return 0; } return f(n - 1); }; "

// I4: MaxCalls within each other there may be, but not one more.
func TestDeep(t *testing.T) {
	if api.MaxCalls != 40 {
		t.Fatal("the limit is another one")
	}
	wantRun(t, down+"print f(1); print f(40); print f(39); print f(40);", "0 0 0 0 done")
	wantRun(t, strings.Replace(down, "return f", "return ^f", 1)+"print f(40); print f(41);", "0 deep call")
	wantRun(t, "let f = fn() { print 1; ^f(); }; f();", strings.Repeat("1 ", 40)+"deep call")
	wantRun(t, down+"let i = 0; while (i < 100) { f(2); i = i + 1; } print i;", "100 done")
	wantRun(t, down+"let id = fn(x) { return x; }; print id(id(id(f(40)))); let g = fn() { return f(39); }; print g(); g = fn() { return f(40) + id(0); };", "0 0 done")
	wantRun(t, strings.Replace(down, "return f", "return ^f", 1)+"let g = fn() { print f(39); print f(40); }; g();", "0 deep call")
	wantRun(t, "let f: any = fn(n: num, x) { if (n == 1) { return x; } return f(n - 1, fn() { return x; }()); }; print f(39, 7); print f(40, 8);", "7 8 done")
}

// I4: what is handed in is there ahead of a call that is too deep; what is no function is WRONG, however deep; no param of it is looked at.
func TestDeepLast(t *testing.T) {
	wantRun(t, "let x: any = true; let f = fn(n: num) { if (n == 1) { print 5; f(^-x); } f(n - 1); }; f(40);", "5 wrong one")
	wantWay(t, "let x: any = true; let f = fn(n: num) { if (n == 1) { print 5; f(^x); } f(n - 1); }; f(40);", api.RunAll, 1000, "5 guard var")
	wantWay(t, "let x: any = true; let f = fn(n: num) { if (n == 1) { print 5; ^f(x); } f(n - 1); }; f(40);", api.RunBare, 1000, "5 deep call")
	wantRun(t, "let x: any = 1; let f = fn(n: num) { if (n == 1) { print 5; ^x(); } f(n - 1); }; f(40);", "5 wrong call")
	wantGuarded(t, "let f: any = fn(n: num) { if (n == 40) { ^f(null); } f(n + 1); }; f(1);", "deep call", strings.TrimSpace(strings.Repeat("param16num ", 40)))
}

// full makes things, all but as many as it is told, of those that there may be.
func full(but int) string {
	return fmt.Sprint("let l: any = []; let i = 0; while (i < ", api.MaxThings-1-but, ") { l[i] = 0; i = i + 1; } print 1; ")
}

// I4: MaxThings may be made, but not one more, whatever they are.
func TestHeap(t *testing.T) {
	for _, x := range []struct{ e, kind string }{{"{}", "object"}, {"[]", "array"}, {"fn() {}", "fn"}} {
		wantRun(t, full(1)+x.e+"; print 2; ^"+x.e+"; print 3;", "1 2 heap "+x.kind)
		wantRun(t, "let i = 0; while (i < 2000) { "+x.e+"; i = i + 1; } print i;", "2000 done")
		wantRun(t, "let i = 0; while (i < 2001) { ^"+x.e+"; i = i + 1; } print i;", "heap "+x.kind)
	}
	wantRun(t, full(1)+"l[i] = 1; print 2; ^l[i + 1] = 2;", "1 2 heap lay")
	wantRun(t, full(0)+"^l[i] = 1;", "1 heap lay")
	wantRun(t, "let f = fn() { return 1; }; let i = 0; while (i < 3000) { f(); i = i + 1; } print i;", "3000 done")
}

// I4: an operation is asked when its parts are there: so what is in a thing is made ahead of it.
func TestHeapLast(t *testing.T) {
	wantRun(t, full(1)+"^[[]];", "1 heap array")
	wantRun(t, full(1)+"^{ a: [] };", "1 heap object")
	wantRun(t, full(1)+"[{}, ^fn() {}];", "1 heap fn")
	wantRun(t, full(0)+"[^{ a: 1 }];", "1 heap object")
	wantRun(t, full(0)+"let x: any = true; [-1, ^-x];", "1 wrong one")
	wantRun(t, full(0)+"let x: any = true; { a: ^-x };", "1 wrong one")
	wantRun(t, full(0)+"l[i] = ^[];", "1 heap array")
}

// I4: what makes nothing is not counted; what is WRONG stays so.
func TestHeapOthers(t *testing.T) {
	wantRun(t, full(0)+"l[0] = 5; l[i - 1] = 6; print l[0]; print l[i - 1]; print l.length == i;", "1 5 6 true done")
	wantRun(t, full(0)+"^l[i + 1] = 5;", "1 wrong lay")
	wantRun(t, full(0)+"^l[0 - 1] = 5;", "1 wrong lay")
	wantRun(t, "let o: any = {}; let f = fn(a) { return a; }; "+full(2)+"o.a = 1; o.b = 2; o.b = f(3); print o.a + o.b; print \"a\" + \"b\";", "1 4 ab done")
	wantRun(t, full(1)+"[1, 2, 3, 4]; print 2; ^[];", "1 2 heap array")
}

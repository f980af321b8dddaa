package run

import (
	"fmt"
	"math"
	"slices"
	"strings"
	"testing"

	"guardrail/api"
	"guardrail/place"
	"guardrail/tree"
)

// ways to run, all of them.
func ways() []int { return []int{api.RunBare, api.RunAll, api.RunFewer} }

// word of what stands at a place of a list of words.
func word(words string, k int) string { return strings.Fields(words)[k] }

// told: how a run went, in words: its lines, how it ended, and the kind of node at which it did.
func told(s string, o api.Outcome) string {
	list := append(slices.Clone(o.Lines), word("? done guard wrong fuel deep heap", o.End))
	out := strings.Join(list, " ")
	if o.Node >= 0 {
		p, _ := tree.Parse(s)
		out += " " + word("? num text bool null var fn call get at object array two one as part param let set put lay", p.Nodes[o.Node].Kind)
	}
	return out
}

// wantWay: by a way, and with fuel, a program runs so; a `^` in it stands where the node begins at which it ends.
func wantWay(t *testing.T, s string, way, fuel int, want string) {
	t.Helper()
	at := strings.Index(s, "^")
	s = strings.Replace(s, "^", "", 1)
	o, fault := Run(s, way, fuel)
	if fault != (api.Fault{}) {
		t.Errorf("Run(%q, %d, %d): %v", s, way, fuel, fault)
		return
	}
	got := -1
	if o.Node >= 0 {
		p, _ := tree.Parse(s)
		got = p.Nodes[o.Node].At
	}
	if told := told(s, o); told != want || got != at {
		t.Errorf("Run(%q, %d, %d): %q at %d, and must be %q at %d", s, way, fuel, told, got, want, at)
	}
}

// wantRun: all ways a program runs so.
func wantRun(t *testing.T, s, want string) {
	t.Helper()
	for _, way := range ways() {
		wantWay(t, s, way, api.MaxFuel, want)
	}
}

// wantGuarded: with guards a program runs so, and these are the events: a tag in a word each.
func wantGuarded(t *testing.T, s, want string, events string) {
	t.Helper()
	wantWay(t, s, api.RunAll, api.MaxFuel, want)
	plain := strings.Replace(s, "^", "", 1)
	o, _ := Run(plain, api.RunAll, api.MaxFuel)
	p, _ := tree.Parse(plain)
	var got []string
	for _, e := range o.Events {
		n := p.Nodes[e.Node]
		got = append(got, fmt.Sprint(word("? num text bool null var fn call get at object array two one as part param", n.Kind), n.At, tagWord(e.Tag)))
	}
	if list := strings.Join(got, " "); list != events {
		t.Errorf("Run(%q): its events are %q, and must be %q", plain, list, events)
	}
	if o, _ := Run(plain, api.RunBare, api.MaxFuel); len(o.Events) > 0 {
		t.Errorf("Run(%q): bare it has the events %v", plain, o.Events)
	}
}

// tagWord of a tag.
func tagWord(tag int) string {
	for k, word := range strings.Fields("num bool text null object array function") {
		if tag == 1<<k {
			return word
		}
	}
	return fmt.Sprint("none: ", tag)
}

// wantFault: nothing else is answered.
func wantFault(t *testing.T, s string, way, fuel int, want api.Fault) {
	t.Helper()
	o, fault := Run(s, way, fuel)
	if fault != want || len(o.Lines) > 0 || o.End != 0 || o.Node != 0 || len(o.Events) > 0 {
		t.Errorf("Run(%.60q, %d, %d): %v %v, and must be %v", s, way, fuel, o, fault, want)
	}
}

// I1: the faults of a program come ahead of that of the way, which comes ahead of that of the fuel.
func TestFaults(t *testing.T) {
	for _, x := range []struct {
		s    string
		want api.Fault
	}{
		{"\t", api.Fault{Err: api.ErrForm, At: 0}},
		{"print 1", api.Fault{Err: api.ErrForm, At: 7}},
		{"print q;", api.Fault{Err: api.ErrNone, At: 6}},
		{"let x = 1; let x = 2;", api.Fault{Err: api.ErrTwice, At: 11}},
		{"print 1; return 1;", api.Fault{Err: api.ErrState, At: 9}},
		{"print 1; print 1 + true;", api.Fault{Err: api.ErrType, At: 15}},
		{"print " + strings.Repeat("-", 20) + "1;", api.Fault{Err: api.ErrDeep, At: 25}},
		{strings.Repeat(" ", api.MaxBytes+1), api.Fault{Err: api.ErrMany}},
		{strings.Repeat("1;", api.MaxTokens/2) + "1;", api.Fault{Err: api.ErrMany, At: api.MaxTokens}},
	} {
		for _, way := range []int{api.RunBare, api.RunAll, api.RunFewer, 0, 4, -1} {
			for _, fuel := range []int{100, -1, api.MaxFuel + 1} {
				wantFault(t, x.s, way, fuel, x.want)
			}
		}
		if _, fault := place.Guards(x.s); fault != x.want {
			t.Errorf("place.Guards(%.60q): %v, and must be %v", x.s, fault, x.want)
		}
	}
	for _, way := range []int{0, 4, -1, math.MinInt, math.MaxInt} {
		for _, fuel := range []int{0, 100, -1, api.MaxFuel + 1} {
			wantFault(t, "print 1;", way, fuel, api.Fault{Err: api.ErrKind})
			wantFault(t, "", way, fuel, api.Fault{Err: api.ErrKind})
		}
	}
	for _, way := range ways() {
		for _, fuel := range []int{-1, api.MaxFuel + 1, math.MinInt, math.MaxInt} {
			wantFault(t, "print 1;", way, fuel, api.Fault{Err: api.ErrRange})
			wantFault(t, "", way, fuel, api.Fault{Err: api.ErrRange})
		}
		wantWay(t, "", way, 0, "done")
		wantWay(t, "print 1;", way, api.MaxFuel, "1 done")
	}
}

// I1: without guards, with all, or with those that are left.
func TestWays(t *testing.T) {
	const s = "let x: any = true; print 1; let g = fn(y: num) { print y; }; g(^x); print 2;"
	wantWay(t, strings.Replace(s, "^", "", 1), api.RunBare, 100, "1 true 2 done")
	wantWay(t, s, api.RunAll, 100, "1 guard var")
	wantWay(t, s, api.RunFewer, 100, "1 guard var")
	const twice = "let f = fn(x) { return (x as num) + (x as num); }; print f(2);"
	for _, x := range []struct{ way, events int }{{api.RunBare, 0}, {api.RunAll, 2}, {api.RunFewer, 1}} {
		if o, _ := Run(twice, x.way, 100); len(o.Events) != x.events || o.End != api.EndDone {
			t.Errorf("Run(%q, %d): %v", twice, x.way, o)
		}
	}
}

// I2: numbers of 32 bits.
func TestNumbers(t *testing.T) {
	const most = "let most = 999999999 + 999999999 + 147483649; let least = -most - 1; "
	wantRun(t, most+"print most; print least;", "2147483647 -2147483648 done")
	wantRun(t, most+"print most + 1; print least - 1; print -least; print -most; print least + least; print most + most;", "-2147483648 2147483647 -2147483648 -2147483647 0 -2 done")
	wantRun(t, "print 65536 * 65536; print 65536 * 32768; print 46341 * 46341; print 46340 * 46340; print 999999999 * 999999999;", "0 -2147483648 -2147479015 2147395600 808348673 done")
	wantRun(t, most+"print least < most; print most < least; print most + 1 < most; print most + 1 == least; print least * -1 == least;", "true false true true true done")
	wantRun(t, "print 0; print -0; print 1 - 2; print 7 * -6; print 1 - 2 - 3; print 1 - (2 - 3); print 1 + 2 * 3; print (1 + 2) * 3;", "0 0 -1 -42 -4 2 7 9 done")
	wantRun(t, "let x: any = 1; print x + x; print -x; print x - 3; print 3 * x; print x < x;", "2 -1 -2 3 false done")
}

// I2: each time a block runs its names are new, and a function has those that were around it.
func TestNames(t *testing.T) {
	wantRun(t, "let l: any = []; let i = 0; while (i < 3) { let n = i; l[i] = fn() { n = n + 10; return n; }; i = i + 1; } print l[0](); print l[0](); print l[1](); print l[2](); print i;", "10 20 11 12 3 done")
	wantRun(t, "let c = fn(n) { return fn() { n = n + 1; return n; }; }; let a: any = c(0); let b: any = c(5); a(); a(); b(); print a(); print b();", "3 7 done")
	wantRun(t, "let x = 1; if (true) { print x; x = 2; let y = x; let x = 3; x = 4; print x; print y; } print x;", "1 4 2 2 done")
	wantRun(t, "let x = 1; if (true) { let f = fn() { x = x + 1; return x; }; let x = 10; print f(); print f(); print x; } print x;", "2 3 10 3 done")
	wantRun(t, "let x = 1; let f = fn(x) { print x; if (x == 1) { let x = 2; print x; } print x; }; f(1); f(7); print x;", "1 2 1 7 7 1 done")
	wantRun(t, "let f = fn(n: num): num { let m = n; if (0 < n) { f(n - 1); } print m; return m; }; f(2);", "0 1 2 done")
	wantRun(t, "let f = fn(n: num): any { return fn() { n = n + 1; return n; }; }; let a = f(1); let b = f(1); a(); print a(); print b();", "3 2 done")
	wantRun(t, "let f = (fn() { return f; }); print f() == f; let i = 0; while (i < 2) { let g = fn() { return g == f; }; print g(); i = i + 1; }", "true false false done")
	wantRun(t, "let a = 1; let f = fn() { let g = fn() { a = a + 1; }; g(); g(); return a; }; print f(); print f();", "3 5 done")
}

// tell prints what it is handed, and answers it.
const tell = "let tell = fn(what, x) { print what; return x; }; "

// I2: parts go from the left to the right.
func TestOrder(t *testing.T) {
	wantRun(t, tell+"print tell(1, 10) - tell(2, 20) * tell(3, 30);", "1 2 3 -590 done")
	wantRun(t, tell+"print (tell(1, 10) + tell(2, 20)) * tell(3, 30);", "1 2 3 900 done")
	wantRun(t, tell+"print tell(1, 1) == tell(2, 2); print tell(3, 1) < tell(4, 2);", "1 2 false 3 4 true done")
	wantRun(t, tell+"tell(0, fn(a, b) { print 9; })(tell(1, 1), tell(2, 2), tell(3, 3));", "0 1 2 3 9 done")
	wantRun(t, tell+"[tell(1, 1), tell(2, 2), [tell(3, 3)], tell(4, 4)];", "1 2 3 4 done")
	wantRun(t, tell+"{ b: tell(1, 1), a: { z: tell(2, 2) }, c: tell(3, 3) };", "1 2 3 done")
	wantRun(t, tell+"print tell(1, [7, 8])[tell(2, 1)];", "1 2 8 done")
	wantRun(t, tell+"tell(1, {}).a = tell(2, 2); tell(3, []).length; tell(4, [1])[tell(5, 0)] = tell(6, 6);", "1 2 3 4 5 6 done")
	wantRun(t, "let a: any = [1]; let f = fn() { print a.length; a[1] = 2; return 3; }; a[a.length] = f(); print a[1]; print a.length;", "1 3 2 done")
	wantRun(t, "let a: any = [1]; let f = fn() { a = [9]; return 0; }; a[f()] = 5; print a[0]; let b: any = { p: 1 }; let o = b; let g = fn() { b = {}; return 2; }; b.p = g(); print o.p; print b.p;", "9 2 null done")
	wantRun(t, "let x: any = 1; let f = fn() { x = 5; return 1; }; print x + f(); print f() + x; x = 1; print [x, f(), x][0] + x;", "2 6 6 done")
}

// I2: what counts as false.
func TestTruth(t *testing.T) {
	for _, x := range []struct{ e, want string }{
		{"false", "no"}, {"null", "no"}, {"true", "yes"}, {"0", "yes"}, {"1", "yes"}, {"\"\"", "yes"}, {"\"false\"", "yes"}, {"{}", "yes"}, {"[]", "yes"}, {"fn() {}", "yes"}, {"1 == 2", "no"}, {"!false", "yes"}, {"fn() {}()", "no"}, {"({} as any).a", "no"},
	} {
		not := map[string]string{"no": "true", "yes": "false"}[x.want]
		wantRun(t, "if ("+x.e+") { print \"yes\"; } else { print \"no\"; } print !("+x.e+"); print !!("+x.e+");", x.want+" "+not+" "+fmt.Sprint(not == "false")+" done")
		once := map[string]string{"no": "done", "yes": "in done"}[x.want]
		wantRun(t, "if ("+x.e+") { print \"in\"; }", once)
		wantRun(t, "let go = fn(): null { while ("+x.e+") { print \"in\"; return null; } }; go();", once)
	}
	wantRun(t, "let i = 0; while (i < 3) { print i; i = i + 1; } while (false) { print 9; } print i;", "0 1 2 3 done")
	wantRun(t, "let w: any = 3; while (w) { print w; if (w == 1) { w = null; } else { w = w - 1; } }", "3 2 1 done")
	wantRun(t, "if (true) {} else { print 1; } if (null) {} if (null) { print 2; } if (1) { if (null) { print 3; } else { print 4; } }", "4 done")
}

// I3: `+` of two texts, and where they are cut.
func TestTexts(t *testing.T) {
	wantRun(t, "print \"a\" + \"b\"; print \"\" + \"\" == \"\"; print \"1\" + \"2\"; let x: any = \"x\"; print x + \"y\"; print \"y\" + x + x;", "ab true 12 xy yxx done")
	const ten = "let t = \"abcdefghij\"; let u = t + t + t + t + t; u = u + u + u; " // 150 bytes
	long := strings.Repeat("abcdefghij", 20)
	wantRun(t, ten+"u = u + t + t + t + t; print u + \"012345678\"; print u + \"0123456789\";", long[:190]+"012345678 "+long[:190]+"0123456789 done")
	wantRun(t, ten+"u = u + t + t + t + t; print u + \"0123456789X\"; print u + u;", long[:190]+"0123456789 "+long+" done")
	wantRun(t, ten+"u = u + u; print u; print u + \"X\" == u; print \"X\" + u == u; print \"X\" + u;", long+" true false X"+long[:199]+" done")
	wantRun(t, "let t = \"012345678901234567890123456789\"; let i = 0; let u = \"\"; while (i < 99) { u = u + t; i = i + 1; } print u;", strings.Repeat("0123456789", 20)+" done")
}

// of each kind of value one, as an expression, and its kind.
func values() []struct{ e, kind string } {
	return []struct{ e, kind string }{{"1", "num"}, {"true", "bool"}, {"\"t\"", "text"}, {"null", "null"}, {"{ a: 1 }", "object"}, {"[1]", "array"}, {"fn(p) { return 1; }", "function"}}
}

// I3: `==` and typeof, of all kinds of values.
func TestSame(t *testing.T) {
	for i, a := range values() {
		wantRun(t, "let a: any = "+a.e+"; let b = a; print a == b; print b == a; print a == a; print typeof a; print typeof typeof a;", "true true true "+a.kind+" text done")
		for k, b := range values() {
			want := fmt.Sprint(i == k && i < 4)
			wantRun(t, "let a: any = "+a.e+"; let b: any = "+b.e+"; print a == b; print "+a.e+" == b;", want+" "+want+" done")
		}
	}
	wantRun(t, "print 1 == 2; print true == false; print false == false; print \"a\" == \"b\"; print \"a\" == \"A\"; print 0 == false; print 0 == null; print \"\" == null; print \"1\" == 1; print \"null\" == null; print false == null;", "false false true false false false false false false false false done")
	wantRun(t, "let f = fn() {}; let g = fn() {}; print f == g; print f == f; let h = fn() { return fn() {}; }; print h() == h();", "false true false done")
	wantRun(t, "let o: any = { a: {} }; o.b = o.a; print o.a == o.b; print o.a == {}; o.me = o; print o.me.me == o; let l: any = [o, o]; print l[0] == l[1]; print [l][0] == l;", "true false true true true done")
}

// I3: parts of objects, the length of arrays, and what is at their places.
func TestParts(t *testing.T) {
	wantRun(t, "let o: any = { a: 1, b: \"t\" }; print o.a; print o.b; print o.c; print o.length; o.c = 3; o.a = null; o.length = 9; print o.c; print o.a; print o.length;", "1 t null null 3 null 9 done")
	wantRun(t, "let o: any = {}; let p = o; p.a = 1; print o.a; o.a = o; print p.a.a.a == p;", "1 true done")
	wantRun(t, "let l: any = []; print l.length; print l[0]; l[0] = 5; l[1] = 6; print l.length; print l[0]; print l[1]; print l[2]; print l[0 - 1]; print l[999999999]; l[0] = 7; print l[0]; print l.length;", "0 null 2 5 6 null null null 7 2 done")
	wantRun(t, "let l = [1, 2, 3]; l[3] = 4; l[0] = l.length; let m = l; m[4] = 5; print m.length; print l.length;", "5 5 done")
	wantRun(t, "print [1, [2, 3], \"x\"].length; print [].length; print ([[1, 2], 3] as any)[0][1];", "3 0 2 done")
}

// I3: calls.
func TestCalls(t *testing.T) {
	wantRun(t, "let f: any = fn(a, b, c) { print a; print b; print c; return 9; print 8; }; print f(1, 2, 3); print f(1); print f(); print f(1, 2, 3, 4, 5);", "1 2 3 9 1 null null 9 null null null 9 1 2 3 9 done")
	wantRun(t, "print fn() {}(); print fn() { return 1; }(); print fn() { return fn(x) { return x; }; }()(3); print fn(a) { 1; if (a) { print 2; } }(true);", "null 1 3 2 null done")
	wantRun(t, tell+"let f: any = fn(a) { print a; }; f(tell(1, 1), tell(2, 2));", "1 2 1 done")
	wantRun(t, "let f = fn(n) { let i = 0; while (true) { while (true) { if (n < i) { if (true) { return i; } print 1; } i = i + 1; } print 2; } print 3; }; print f(4); print f(0); print \"end\";", "5 1 end done")
	wantRun(t, "let fact = fn(n: num): num { if (n < 2) { return 1; } return n * fact(n - 1); }; print fact(10); print fact(20);", "3628800 -2102132736 done")
	wantRun(t, "let even: any = null; let odd = fn(n: num) { if (n == 0) { return false; } return even(n - 1); }; even = fn(n: num) { if (n == 0) { return true; } return odd(n - 1); }; print even(10); print odd(10);", "true false done")
	wantRun(t, "let g = fn() { return 2; }; let f = fn() { g(); let x = g(); if (g()) { print x; } }; print f();", "2 null done")
	wantRun(t, "let o = { f: fn(x) { return fn(y) { return x - y; }; } }; print (o.f(5) as any)(3); print [fn() { return 4; }][0]();", "2 4 done")
}

// I3: `as` changes nothing.
func TestAs(t *testing.T) {
	wantWay(t, "let x: any = true; print x as num; print (x as num) as text; print 1 as num | text; print (1 as any) == 1; let o: any = {}; print (o as any) == o;", api.RunBare, 100, "true true 1 true true done")
	wantWay(t, "let x: any = true; print ^-(x as num);", api.RunBare, 100, "wrong one")
	wantGuarded(t, "let x: any = 1; print x as num | text; print x as any; print x as unknown;", "1 1 1 done", "var22num")
}

// I5: what is printed.
func TestLines(t *testing.T) {
	wantRun(t, "print 0; print 12; print -7; print 999999999; print \"a b\"; print \"\"; print \"~!@\"; print true; print false; print null; print {}; print { a: 1 }; print []; print [1]; print fn() {}; print fn(a) {}; print typeof 1;",
		"0 12 -7 999999999 a b  ~!@ true false null object object array array function function num done")
	wantRun(t, "print 1 + 2; print typeof null;", "3 null done")
	wantRun(t, "", "done")
	wantRun(t, "1; \"t\"; fn() { print 1; };", "done")
	wantRun(t, "let f = fn() { print 1; print 2; return 3; }; print f(); print [f(), f()];", "1 2 3 1 2 1 2 array done")
	o, _ := Run("print \"1 2\"; print \"\"; print \"3\";", api.RunBare, 100)
	if !slices.Equal(o.Lines, []string{"1 2", "", "3"}) {
		t.Errorf("the lines are %q", o.Lines)
	}
}

// P2, P3: what is answered is new, and the same each time.
func TestAgain(t *testing.T) {
	const s = "let f = fn(x: num) { print x; }; f(1); f(2); let y: any = null; f(y);"
	first, _ := Run(s, api.RunAll, 100)
	lines, events := slices.Clone(first.Lines), slices.Clone(first.Events)
	for range 3 {
		o, _ := Run(s, api.RunAll, 100)
		if !slices.Equal(o.Lines, lines) || !slices.Equal(o.Events, events) || o.End != api.EndGuard || o.Node != first.Node {
			t.Errorf("it is %v, and was %v", o, first)
		}
		clear(o.Lines)
		clear(o.Events)
	}
	if !slices.Equal(first.Lines, lines) || !slices.Equal(first.Events, events) {
		t.Errorf("two answers share memory: %v", first)
	}
}

package elide_test

import (
	"slices"
	"testing"

	"guardrail/api"
	"guardrail/elide"
	"guardrail/run"
)

// sameRuns: a run with the guards that are left goes as one with all of them; how it ends, and how many looks less it takes.
func sameRuns(t *testing.T, s string) (end, less int) {
	t.Helper()
	left, fault := elide.Guards(s)
	if fault.Err != api.OK {
		t.Fatalf("Guards(%q): %v", s, fault)
	}
	all, _ := run.Run(s, api.RunAll, 2000)
	fewer, _ := run.Run(s, api.RunFewer, 2000)
	less = len(all.Events) - len(fewer.Events)
	events := slices.DeleteFunc(all.Events, func(e api.Event) bool {
		return !slices.ContainsFunc(left, func(g api.Guard) bool { return g.Node == e.Node })
	})
	if all.End != fewer.End || all.Node != fewer.Node || !slices.Equal(all.Lines, fewer.Lines) || !slices.Equal(events, fewer.Events) {
		t.Fatalf("%s\nwith all it is %v, with those that are left %v", s, all, fewer)
	}
	return all.End, less
}

// H3: runs in which a guard fails that must be left, as another value comes there than the one that was looked at.
func TestRunsThatFail(t *testing.T) {
	const ask = "let g = fn(x: num) {}; let k = fn(x: text) {}; let b = fn(x: num | text) {}; "
	for _, s := range []string{
		"let a: any = 1; let f = fn() { g(a); }; g(a); f(); a = true; f();",
		"let a: any = 1; let f = fn() { a = true; }; g(a); f(); g(a);",
		"let a: any = 1; let f = fn(c) { fn() { c = true; }(); g(c); }; f(1);",
		"let a: any = 1; let f = fn() { a = true; }; f(); let c: any = a; g(c);",
		"let a: any = 1; let i = 0; while (i < 2) { g(a); a = true; i = i + 1; }",
		"let a: any = 1; let i = 0; while (g(a) == null) { a = true; }",
		"let a: any = 1; let c: any = 1; let i = 0; while (i < 3) { g(c); c = a; a = true; i = i + 1; }",
		"let a: any = true; while (false) { g(a); } g(a);",
		"let a: any = 1; if (true) { a = true; } g(a);",
		"let a: any = 1; if (true) { a = true; } else { g(a); } g(a);",
		"let a: any = true; if (false) { g(a); } g(a);",
		"let a: any = true; if (false) {} else { print 1; } g(a);",
		"let a: any = true; let f = fn() { g(a); }; g(a);",
		"let a: any = \"a\" + \"b\"; g(a);",
		"let f = fn(c) { g(c); }; f(1); f(true);",
		"let a: any = 1; g(a); a = { p: true }.p as any; g(a);",
		"let a: any = 1; b(a); a = \"\"; b(a); g(a);",
		"let a: any = 1; g(a); if (true) { let a: any = true; g(a); }",
	} {
		if end, _ := sameRuns(t, ask+s); end != api.EndGuard {
			t.Errorf("%s: it ends %d", s, end)
		}
	}
}

// H3: drawn programs.
func TestRuns(t *testing.T) {
	ends, gone := map[int]int{}, 0
	for _, s := range elide.Drawn(2000) {
		if _, fault := elide.Guards(s); fault.Err == api.ErrMany {
			continue
		}
		end, less := sameRuns(t, s)
		ends[end]++
		gone += less
	}
	if min(ends[api.EndDone], ends[api.EndGuard]) < 500 || gone < 2000 {
		t.Errorf("too few of a kind: %v; %d looks less", ends, gone)
	}
}

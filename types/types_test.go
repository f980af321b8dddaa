package types

import (
	"fmt"
	"slices"
	"strings"
	"testing"
	"time"

	"guardrail/api"
)

// wantSame holds two types against each other, both ways.
func wantSame(t *testing.T, want bool, a, b string) {
	t.Helper()
	for _, two := range [][2]string{{a, b}, {b, a}} {
		if got, fault := Same(two[0], two[1]); got != want || fault != (api.Fault{}) {
			t.Errorf("Same(%q, %q): %v %v", two[0], two[1], got, fault)
		}
	}
}

// D1: written alike, but for the order of fields.
func TestSame(t *testing.T) {
	for _, a := range some() {
		for _, b := range some() {
			wantSame(t, a == b, a, b)
		}
	}
	wantSame(t, true, "(num)", " num\n")
	wantSame(t, true, "((num) | ([(text)]))", "num|[text]")
	wantSame(t, true, "() => (num | text)", "() => num | text")
	wantSame(t, false, "(() => num) | text", "() => num | text")
	wantSame(t, false, "num | text", "text | num")
	wantSame(t, false, "num | num", "num")
	wantSame(t, false, "(num | text) | null", "num | text | null")
	wantSame(t, false, "(num | text) | null", "num | (text | null)")
	wantSame(t, false, "(num, text) => num", "(text, num) => num")
}

// D1: the order of fields does not count, however deep they are; their names and types do.
func TestSameFields(t *testing.T) {
	wantSame(t, true, "{ a: num; b: text; }", "{ b: text; a: num; }")
	wantSame(t, true, "{ a: num; b: text; c: {}; }", "{ c: {}; a: num; b: text; }")
	wantSame(t, true, "[(num | { a: { c: num; d: any; }; b: text; }) => {}]", "[(num | { b: text; a: { d: any; c: num; }; }) => {}]")
	wantSame(t, false, "{ a: num; b: text; }", "{ a: text; b: num; }")
	wantSame(t, false, "{ a: num; b: text; }", "{ a: num; }")
	wantSame(t, false, "{ a: num; b: text; }", "{ a: num; c: text; }")
	wantSame(t, false, "{ a: { b: num; }; }", "{ a: { b: text; }; }")
	wantSame(t, false, "{ a: num; A: text; }", "{ a: text; A: num; }")
}

// some types of all kinds, no two of them the same.
func some() []string {
	return []string{
		"num", "bool", "text", "null", "any", "unknown", "num | text", "num | null", "bool | num | text", "unknown | num", "any | num",
		"{}", "{ a: num; }", "{ a: num | text; }", "{ a: any; }", "{ a: num; b: text; }", "{ a: unknown; }",
		"[num]", "[any]", "[unknown]", "[num | text]", "[[num]]", "[num] | [text]",
		"() => num", "() => any", "(num) => num", "(text) => num", "(num | text) => num", "(num, text) => num", "(any) => num", "() => num | text", "(() => num) | text",
	}
}

// wantFits: does a fit b, and b fit a?
func wantFits(t *testing.T, a, b string, forth, back bool) {
	t.Helper()
	if got, fault := Fits(a, b); got != forth || fault != (api.Fault{}) {
		t.Errorf("Fits(%q, %q): %v %v", a, b, got, fault)
	}
	if got, fault := Fits(b, a); got != back || fault != (api.Fault{}) {
		t.Errorf("Fits(%q, %q): %v %v", b, a, got, fault)
	}
}

// D2: any fits all, and all any; unknown is fit by all, and fits but itself and any.
func TestFitsAnyAndUnknown(t *testing.T) {
	for _, s := range some() {
		wantFits(t, s, "any", true, true)
		wantFits(t, s, "unknown", true, strings.Contains(" any unknown ", s) || s == "unknown | num" || s == "any | num")
	}
}

// D2: plain types, and those of other kinds.
func TestFitsKinds(t *testing.T) {
	kinds := []string{"num", "bool", "text", "null", "{}", "[num]", "() => num"}
	for _, a := range kinds {
		for _, b := range kinds {
			wantFits(t, a, b, a == b, a == b)
		}
	}
}

// D2: unions: all of a, one of b.
func TestFitsUnions(t *testing.T) {
	wantFits(t, "num", "num | text", true, false)
	wantFits(t, "text", "num | text", true, false)
	wantFits(t, "null", "num | text", false, false)
	wantFits(t, "num | text", "text | num", true, true)
	wantFits(t, "num | text", "text | null | num", true, false)
	wantFits(t, "(num | text) | null", "null | (text | num)", true, true)
	wantFits(t, "num | num", "num", true, true)
	wantFits(t, "num | any", "num", true, true)
	wantFits(t, "text | any", "num", false, true)
	wantFits(t, "unknown", "num | any", true, true)
	wantFits(t, "unknown", "num | unknown", true, true)
	wantFits(t, "[num | text]", "[num] | [text]", false, true)
	wantFits(t, "[num] | {}", "[any] | { a: num; }", false, true)
}

// D2: objects and arrays.
func TestFitsParts(t *testing.T) {
	wantFits(t, "{ a: num; }", "{}", true, false)
	wantFits(t, "{ a: num; b: text; }", "{ b: text; }", true, false)
	wantFits(t, "{ a: num; b: text; }", "{ b: text; a: num; }", true, true)
	wantFits(t, "{ a: num; }", "{ a: num | text; }", true, false)
	wantFits(t, "{ a: num; }", "{ a: text; }", false, false)
	wantFits(t, "{ a: num; }", "{ b: num; }", false, false)
	wantFits(t, "{ a: any; }", "{ a: num; }", true, true)
	wantFits(t, "{ a: unknown; }", "{ a: num; }", false, true)
	wantFits(t, "{ a: { b: num; c: num; }; }", "{ a: { c: num; }; }", true, false)
	wantFits(t, "[num]", "[num | text]", true, false)
	wantFits(t, "[num]", "[text]", false, false)
	wantFits(t, "[any]", "[num]", true, true)
	wantFits(t, "[[{ a: num; }]]", "[[{}]]", true, false)
}

// D2: functions: no more params, each fits one way or the other, and the result fits.
func TestFitsFunctions(t *testing.T) {
	wantFits(t, "() => num", "(num) => num", true, false)
	wantFits(t, "(num) => num", "(num, text) => num", true, false)
	wantFits(t, "(text) => num", "(num, text) => num", false, false)
	wantFits(t, "(num) => num", "(num | text) => num", true, true)
	wantFits(t, "({ a: num; }) => num", "({}) => num", true, true)
	wantFits(t, "(num | text) => num", "(num | null) => num", false, false)
	wantFits(t, "(num, text) => num", "(num, null) => num", false, false)
	wantFits(t, "(num, num | text) => num", "(num | text, num) => num", true, true)
	wantFits(t, "() => num", "() => num | text", true, false)
	wantFits(t, "() => num", "() => text", false, false)
	wantFits(t, "() => any", "() => num", true, true)
	wantFits(t, "((num) => num) => num", "((text) => num) => num", false, false)
	wantFits(t, "((num) => num) => num", "((num | text) => num | text) => num", true, true)
	wantFits(t, "(() => num) => num", "((num) => num) => num", true, true)
	wantFits(t, "((num) => () => text) => num", "(() => (any) => text | num) => num", false, false)
}

// D2, P1: functions within each other's params are held against each other both ways, and yet there's an answer soon.
func TestFitsDeep(t *testing.T) {
	a, b := "num", "text"
	for range 19 {
		a = strings.Repeat("text | {} | null | [num] | ", 2) + "(" + a + ") => num"
		b = strings.Repeat("[num] | null | {} | text | ", 2) + "(" + b + ") => num"
	}
	begin := time.Now()
	for range 20 {
		wantFits(t, a, b, false, false)
		wantFits(t, a, a, true, true)
	}
	if took := time.Since(begin); took > 2*time.Second {
		t.Errorf("it took %v", took)
	}
}

// D3: tags.
func TestTags(t *testing.T) {
	for s, want := range map[string]int{
		"num": 1, "bool": 2, "text": 4, "null": 8, "{}": 16, "{ a: num; }": 16, "[num]": 32, "[any]": 32, "() => num": 64, "(num) => any": 64, "any": 127, "unknown": 127,
		"num | null": 9, "(num | text) | null": 13, "num | num": 1, "num | any": 127, "text | unknown": 127, "num | bool | text | null | {} | [num] | () => num": 127,
		"() => num | text": 64, "(() => num) | text": 68, "[num | text] | {}": 48,
	} {
		if got, fault := Tags(s); got != want || fault != (api.Fault{}) {
			t.Errorf("Tags(%q): %d %v, want %d", s, got, fault, want)
		}
	}
}

func wantUnion(t *testing.T, want string, l ...string) {
	t.Helper()
	if got, fault := Union(l); got != want || fault != (api.Fault{}) {
		t.Errorf("Union(%q): %q %v, want %q", l, got, fault, want)
	}
}

// D4: one behind the other, taken apart, and none of them twice.
func TestUnion(t *testing.T) {
	wantUnion(t, "any")
	for _, s := range []string{"num", "unknown", "num | text", "[num | num]", "() => num", "{ b: num; a: num; }"} {
		wantUnion(t, s, s)
		wantUnion(t, s, s, " ( "+s+" ) ")
	}
	wantUnion(t, "num | text", "num", "text", "num")
	wantUnion(t, "text | num", "text", "num")
	wantUnion(t, "num | text | null | bool", "num | text", "null | text", "bool")
	wantUnion(t, "num", "num | num")
	wantUnion(t, "num | text | null | bool", "num | (text | (null | num))", "(text | bool) | num")
	wantUnion(t, "{ b: num; a: [text]; } | {}", "{ b: num; a: [text]; }", "{}", "{ a: [text]; b: num; }")
	wantUnion(t, "[num] | [text] | [num | text] | [text | num]", "[num]", "[text]", "[num | text]", "[text | num]")
	wantUnion(t, "unknown | num", "unknown", "num")
}

// D4: what is any makes all any; what is but in another does not.
func TestUnionAny(t *testing.T) {
	wantUnion(t, "any", "any")
	wantUnion(t, "any", "num", "any", "text")
	wantUnion(t, "any", "num", "text | (null | any)")
	wantUnion(t, "num | [any]", "num", "[any]")
	wantUnion(t, "{ a: any; } | () => any", "{ a: any; }", "() => any")
}

// D4: functions stand in brackets, but behind all others.
func TestUnionBrackets(t *testing.T) {
	wantUnion(t, "((num) => num) | num", "(num) => num", "num")
	wantUnion(t, "num | (num) => num", "num", "(num) => num")
	wantUnion(t, "(() => num | text) | null", "() => num | text", "null")
	wantUnion(t, "(() => num) | text | () => null", "() => num", "text | () => null")
}

// D4: 50 types may be handed in, however many they are of.
func TestUnionMany(t *testing.T) {
	var l, want []string
	for i := range 50 {
		a, b := fmt.Sprintf("{ a%d: num; }", i), fmt.Sprintf("{ b%d: num; }", i)
		l = append(l, a+" | "+b)
		want = append(want, a, b)
	}
	wantUnion(t, strings.Join(want, " | "), l...)
	for _, s := range []string{"num", "any", "x"} {
		if got, fault := Union(append(slices.Clone(l), s)); got != "" || fault != (api.Fault{Err: api.ErrMany}) {
			t.Errorf("Union of 51: %q %v", got, fault)
		}
	}
}

// D1, P1: faults are those of the first text that has one, and nothing comes with them.
func TestFaults(t *testing.T) {
	for s, want := range map[string]api.Fault{
		"":                        {Err: api.ErrForm},
		" x":                      {Err: api.ErrForm, At: 1},
		"num text":                {Err: api.ErrForm, At: 4},
		"{ a: num; a: num; }":     {Err: api.ErrTwice, At: 10},
		strings.Repeat("[", 21):   {Err: api.ErrDeep, At: 20},
		strings.Repeat(" ", 4001): {Err: api.ErrMany},
	} {
		for _, two := range [][2]string{{s, s}, {s, "any"}, {"any", s}, {s, "num num num"}} {
			if got, fault := Same(two[0], two[1]); got || fault != want {
				t.Errorf("Same(%.30q): %v %v, want %v", two, got, fault, want)
			}
			if got, fault := Fits(two[0], two[1]); got || fault != want {
				t.Errorf("Fits(%.30q): %v %v, want %v", two, got, fault, want)
			}
			if got, fault := Union([]string{"any", two[0], two[1]}); got != "" || fault != want {
				t.Errorf("Union(any, %.30q): %q %v, want %v", two, got, fault, want)
			}
		}
		if got, fault := Tags(s); got != 0 || fault != want {
			t.Errorf("Tags(%.30q): %d %v, want %v", s, got, fault, want)
		}
	}
}

// D5: what is the same fits both ways; what fits a type has its tags, if no any nor unknown is in it.
func TestWhatFollows(t *testing.T) {
	for _, a := range some() {
		for _, b := range some() {
			same, _ := Same(a, b)
			fits, _ := Fits(a, b)
			if same && !fits {
				t.Errorf("%q is the same as %q, but does not fit", a, b)
			}
			if strings.Contains(a+b, "any") || strings.Contains(a+b, "unknown") {
				continue
			}
			has, _ := Tags(a)
			may, _ := Tags(b)
			if fits && has&^may != 0 {
				t.Errorf("%q fits %q, but its tags are %d and %d", a, b, has, may)
			}
		}
	}
	wantSame(t, true, "{ a: (num) => text; b: [any]; }", "{ b: [any]; a: (num) => text; }")
	wantFits(t, "{ a: (num) => text; b: [any]; }", "{ b: [any]; a: (num) => text; }", true, true)
}

// P2: what is handed in is only read, its spare room too.
func TestUnionReadsOnly(t *testing.T) {
	l := []string{"num", "text | num", "spare", "room"}
	wantUnion(t, "num | text", l[:2]...)
	if !slices.Equal(l, []string{"num", "text | num", "spare", "room"}) {
		t.Errorf("the list is %q now", l)
	}
}

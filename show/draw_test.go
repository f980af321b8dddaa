package show

import (
	"fmt"
	"reflect"
	"strings"
	"testing"

	"guardrail/api"
	"guardrail/token"
	"guardrail/tree"
)

// writer writes texts by the rules of chapter 2, drawn by numbers that are the same each time, with many brackets.
type writer uint64

func (w *writer) below(n int) int {
	*w = *w*6364136223846793005 + 1442695040888963407
	return int(uint64(*w) >> 33 % uint64(n))
}

func (w *writer) one(of ...string) string { return of[w.below(len(of))] }

// list is up to three parts; each is told how many there are ahead of it.
func (w *writer) list(between string, part func(i int) string) string {
	var all []string
	for i := range w.below(4) {
		all = append(all, part(i))
	}
	return strings.Join(all, between)
}

func (w *writer) block(deep int) string {
	return "{ " + w.list(" ", func(int) string { return w.statement(deep) }) + " }"
}

func (w *writer) statement(deep int) string {
	if deep <= 0 {
		return w.one("x ;", "print 1 ;", "x = 2 ;")
	}
	deep--
	switch w.below(9) {
	case 0:
		return "let x" + w.typeIfAny(deep) + " = " + w.expression(deep) + " ;"
	case 1:
		return w.one("print ", "return ", "x = ", "( x ) = ") + w.expression(deep) + " ;"
	case 2:
		return "if ( " + w.expression(deep) + " ) " + w.block(deep) + w.one("", " else "+w.block(deep))
	case 3:
		return "while ( " + w.expression(deep) + " ) " + w.block(deep)
	case 4:
		return w.simple(deep) + " . a = " + w.expression(deep) + " ;"
	case 5:
		return "( " + w.simple(deep) + " [ " + w.expression(deep) + " ] ) = " + w.expression(deep) + " ;"
	}
	return w.expression(deep) + " ;"
}

func (w *writer) expression(deep int) string {
	s := w.sum(deep)
	if w.below(4) == 0 {
		s += w.one(" == ", " < ") + w.sum(deep)
	}
	return s
}

func (w *writer) sum(deep int) string {
	s := w.operand(deep)
	for w.below(3) == 0 {
		s += w.one(" + ", " - ", " * ") + w.operand(deep)
	}
	return s
}

func (w *writer) operand(deep int) string {
	s := w.simple(deep)
	for deep > 0 && w.below(3) == 0 {
		s += w.tail(deep - 1)
	}
	for w.below(5) == 0 {
		s = w.one("! ", "- ", "typeof ") + s
	}
	return s
}

func (w *writer) tail(deep int) string {
	switch w.below(4) {
	case 0:
		return " ( " + w.list(" , ", func(int) string { return w.expression(deep) }) + " )"
	case 1:
		return " [ " + w.expression(deep) + " ]"
	case 2:
		return " as " + w.typ(deep)
	}
	return " . b"
}

func (w *writer) simple(deep int) string {
	if deep <= 0 {
		return w.one("0", "12", `"t u"`, "true", "false", "null", "x", "{ }", "[ ]")
	}
	deep--
	switch w.below(7) {
	case 0:
		return "[ " + w.list(" , ", func(int) string { return w.expression(deep) }) + " ]"
	case 1:
		return "{ " + w.list(" , ", func(i int) string { return fmt.Sprint("p", i, " : ", w.expression(deep)) }) + " }"
	case 2:
		params := w.list(" , ", func(i int) string { return fmt.Sprint("p", i, w.typeIfAny(deep)) })
		return "fn ( " + params + " )" + w.typeIfAny(deep) + " " + w.block(deep)
	}
	return "( " + w.expression(deep) + " )"
}

func (w *writer) typeIfAny(deep int) string {
	if w.below(2) == 0 {
		return ""
	}
	return " : " + w.typ(deep)
}

func (w *writer) typ(deep int) string {
	s := w.member(deep)
	for w.below(3) == 0 {
		s += " | " + w.member(deep)
	}
	return s
}

func (w *writer) member(deep int) string {
	if deep <= 0 {
		return w.one("num", "bool", "text", "null", "any", "unknown", "{ }", "( ) => num", "( ( ) => num )")
	}
	deep--
	switch w.below(5) {
	case 0:
		return "{ " + w.list(" ", func(i int) string { return fmt.Sprint("p", i, " : ", w.typ(deep), " ;") }) + " }"
	case 1:
		return "[ " + w.typ(deep) + " ]"
	case 2:
		return "( " + w.list(" , ", func(int) string { return w.typ(deep) }) + " ) => " + w.typ(deep)
	}
	return "( " + w.typ(deep) + " )"
}

// program is that of a text, with places left out: what must stay as it was.
func program(s string) (api.Program, api.Errno) {
	p, fault := tree.Parse(s)
	for i := range p.Nodes {
		p.Nodes[i].At = 0
	}
	return p, fault.Err
}

// sameProgram: are both texts parsed alike?
func sameProgram(a, b string) bool {
	p, pErr := program(a)
	q, qErr := program(b)
	return pErr == qErr && reflect.DeepEqual(p, q)
}

func sameType(a, b string) bool {
	p, pFault := tree.Type(a)
	q, qFault := tree.Type(b)
	return pFault.Err == qFault.Err && reflect.DeepEqual(p, q)
}

// drawn answers what was printed of a text that was drawn; "" if it can't be, as it is too long.
func drawn(t *testing.T, s string, print func(s string) (string, api.Fault)) string {
	t.Helper()
	got, fault := print(s)
	if fault != (api.Fault{}) && fault.Err != api.ErrMany {
		t.Fatalf("%q: %v", s, fault)
	}
	return got
}

// C4: what is printed is parsed as it was, and printed again it is the same, however it stood there.
func TestDrawnPrograms(t *testing.T) {
	w, seen := writer(1), 0
	for range 1500 {
		s := w.list(" ", func(int) string { return w.statement(3) })
		got := drawn(t, s, Print)
		if got == "" {
			continue
		}
		seen++
		if !sameProgram(got, s) {
			t.Fatalf("%q is printed as something else:\n%s", s, got)
		}
		if again, fault := Print(got); again != got || fault.Err != api.OK {
			t.Fatalf("printed again it is not the same:\n%s%v\n%s", again, fault, got)
		}
		if other, _ := Print(strings.ReplaceAll(s, " ", "\n \n")); other != got && len(s) < 800 && !strings.Contains(s, `"`) {
			t.Fatalf("%q is printed otherwise, if it stands otherwise:\n%s", s, other)
		}
		wantTokens(t, s, got)
		wantNoBracketsTooMany(t, got, sameProgram)
	}
	if seen < 800 {
		t.Errorf("only %d programs were seen", seen)
	}
}

// C3, C4: likewise of types alone.
func TestDrawnTypes(t *testing.T) {
	w := writer(2)
	for range 1500 {
		s := w.typ(4)
		got := drawn(t, s, Type)
		if got == "" {
			continue
		}
		if !sameType(got, s) {
			t.Fatalf("%q is printed as %q", s, got)
		}
		if again, _ := Type(got); again != got {
			t.Fatalf("%q printed again is %q", got, again)
		}
		wantTokens(t, s, got)
		wantNoBracketsTooMany(t, got, sameType)
	}
}

// wantTokens: C1: tokens are as they were, but for brackets.
func wantTokens(t *testing.T, s, got string) {
	t.Helper()
	if a, b := plain(s), plain(got); a != b {
		t.Fatalf("the tokens were %s, and are %s", a, b)
	}
}

func plain(s string) string {
	tokens, _ := token.Scan(s)
	out := ""
	for _, k := range tokens {
		if k.Kind != api.TokenSign || k.Text != "(" && k.Text != ")" {
			out += fmt.Sprint(" ", k.Kind, k.Text)
		}
	}
	return out
}

// wantNoBracketsTooMany: C2: without any two brackets it would be parsed otherwise.
func wantNoBracketsTooMany(t *testing.T, s string, same func(a, b string) bool) {
	t.Helper()
	if len(s) > 400 {
		return // each two are a parse of their own
	}
	tokens, _ := token.Scan(s)
	var open []int
	for _, k := range tokens {
		switch {
		case k.Kind != api.TokenSign:
		case k.Text == "(":
			open = append(open, k.At)
		case k.Text == ")":
			begin := open[len(open)-1]
			open = open[:len(open)-1]
			if same(s, s[:begin]+" "+s[begin+1:k.At]+" "+s[k.At+1:]) {
				t.Fatalf("the brackets at %d and %d need not be:\n%s", begin, k.At, s)
			}
		}
	}
}

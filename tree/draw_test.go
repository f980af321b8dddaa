package tree

import (
	"fmt"
	"strings"
	"testing"

	"guardrail/api"
	"guardrail/token"
)

// writer writes texts by the document's rules, drawn by numbers that are the same each time.
type writer struct {
	draw  uint64
	words []string
}

func (w *writer) below(n int) int {
	w.draw = w.draw*6364136223846793005 + 1442695040888963407
	return int(w.draw >> 33 % uint64(n))
}

func (w *writer) put(words ...string) { w.words = append(w.words, words...) }

func (w *writer) one(of ...string) { w.put(of[w.below(len(of))]) }

func (w *writer) name() { w.one("a", "b", "c", "x", "length") }

// list writes up to three parts; each is told how many there are ahead of it.
func (w *writer) list(comma string, part func(i int)) {
	for i := range w.below(4) {
		if i > 0 && comma != "" {
			w.put(comma)
		}
		part(i)
	}
}

func (w *writer) typeIfAny(deep int) {
	if w.below(2) == 0 {
		w.put(":")
		w.typ(deep)
	}
}

func (w *writer) block(deep int) {
	w.put("{")
	w.list("", func(int) { w.statement(deep) })
	w.put("}")
}

func (w *writer) statement(deep int) {
	kind := w.below(10)
	if deep <= 0 {
		kind = 9
	}
	switch kind {
	case 0, 1:
		w.put("let")
		w.name()
		w.typeIfAny(deep - 1)
		w.put("=")
	case 2:
		w.one("print", "return")
	case 3, 4:
		w.one("if", "while")
		branch := w.words[len(w.words)-1] == "if"
		w.put("(")
		w.expression(deep - 1)
		w.put(")")
		w.block(deep - 1)
		if branch && w.below(2) == 0 {
			w.put("else")
			w.block(deep - 1)
		}
		return
	case 5:
		w.name()
		w.put("=")
	case 6:
		w.simple(deep - 1)
		w.put(".")
		w.name()
		w.put("=")
	case 7:
		w.simple(deep - 1)
		w.put("[")
		w.expression(deep - 1)
		w.put("]", "=")
	}
	w.expression(deep - 1)
	w.put(";")
}

func (w *writer) expression(deep int) {
	w.sum(deep)
	if w.below(5) == 0 {
		w.one("==", "<")
		w.sum(deep)
	}
}

func (w *writer) sum(deep int) {
	w.operand(deep)
	for w.below(4) == 0 {
		w.one("+", "-", "*")
		w.operand(deep)
	}
}

func (w *writer) operand(deep int) {
	if w.below(6) == 0 {
		w.one("!", "-", "typeof")
	}
	w.simple(deep)
	for w.below(4) == 0 && deep > 0 {
		w.tail(deep - 1)
	}
}

func (w *writer) tail(deep int) {
	switch w.below(4) {
	case 0:
		w.put("(")
		w.list(",", func(int) { w.expression(deep) })
		w.put(")")
	case 1:
		w.put(".")
		w.name()
	case 2:
		w.put("[")
		w.expression(deep)
		w.put("]")
	case 3:
		w.put("as")
		w.typ(deep)
	}
}

func (w *writer) simple(deep int) {
	kind := w.below(9)
	if deep <= 0 {
		kind = 8
	}
	switch kind {
	case 0:
		w.put("(")
		w.expression(deep - 1)
		w.put(")")
	case 1:
		w.put("[")
		w.list(",", func(int) { w.expression(deep - 1) })
		w.put("]")
	case 2:
		w.put("{")
		w.list(",", func(i int) {
			w.put("p"+fmt.Sprint(i), ":")
			w.expression(deep - 1)
		})
		w.put("}")
	case 3:
		w.put("fn", "(")
		w.list(",", func(i int) {
			w.put("p" + fmt.Sprint(i))
			w.typeIfAny(deep - 1)
		})
		w.put(")")
		w.typeIfAny(deep - 1)
		w.block(deep - 1)
	default:
		w.one("0", "12", `"t u"`, `""`, "true", "false", "null", "a", "b", "x")
	}
}

func (w *writer) typ(deep int) {
	w.member(deep)
	for w.below(4) == 0 {
		w.put("|")
		w.member(deep)
	}
}

func (w *writer) member(deep int) {
	kind := w.below(6)
	if deep <= 0 {
		kind = 5
	}
	switch kind {
	case 0:
		w.put("{")
		w.list("", func(i int) {
			w.put("p"+fmt.Sprint(i), ":")
			w.typ(deep - 1)
			w.put(";")
		})
		w.put("}")
	case 1:
		w.put("[")
		w.typ(deep - 1)
		w.put("]")
	case 2:
		w.put("(")
		w.typ(deep - 1)
		w.put(")")
	case 3:
		w.put("(")
		w.list(",", func(int) { w.typ(deep - 1) })
		w.put(")", "=>")
		w.typ(deep - 1)
	default:
		w.one("num", "bool", "text", "null", "any", "unknown")
	}
}

// program writes a whole one.
func (w *writer) program() []string {
	w.words = nil
	w.list("", func(int) { w.statement(5) })
	return w.words
}

// broken is a program with some words changed.
func (w *writer) broken() []string {
	words := w.program()
	for range 1 + w.below(2) {
		i := w.below(len(words) + 1)
		behind := append([]string{}, words[min(i+w.below(2), len(words)):]...)
		words = words[:i]
		if w.below(3) > 0 {
			words = append(words, w.any())
		}
		words = append(words, behind...)
	}
	return words
}

func (w *writer) any() string {
	all := strings.Fields("let fn if else while return print true null as typeof num any == => ( ) { } [ ] , ; : . = < + - * ! | a p0 p1 7")
	return all[w.below(len(all))]
}

// B1 to B4: what is written by the rules is a program, numbered as it must be.
func TestDrawnPrograms(t *testing.T) {
	w := &writer{draw: 1}
	for range 2000 {
		s := strings.Join(w.program(), " ")
		tokens, fault := token.Scan(s)
		if fault != (api.Fault{}) {
			continue // too long
		}
		p, fault := Parse(s)
		if fault != (api.Fault{}) && fault != (api.Fault{Err: api.ErrMany}) {
			t.Fatalf("Parse(%q): %v", s, fault)
		}
		if fault.Err == api.OK {
			wantNumbers(t, s, p)
			wantPlaces(t, s, p, tokens)
		}
	}
}

// wantPlaces: B4: a node begins where a token does, no later than its parts, and not with the bracket that it stands in.
func wantPlaces(t *testing.T, s string, p api.Program, tokens []api.Token) {
	t.Helper()
	begins := map[int]string{}
	for _, k := range tokens {
		begins[k.At] = k.Text
	}
	for i, n := range p.Nodes[:p.Main] {
		if word, ok := begins[n.At]; !ok || word == "(" {
			t.Fatalf("%q: node %d begins at %d", s, i, n.At)
		}
		for _, k := range parts(n) {
			if p.Nodes[k].At < n.At {
				t.Fatalf("%q: node %d begins behind its part %d", s, i, k)
			}
		}
	}
}

// B5: what stands ahead of a fault's token has no fault, but that it may not end there; what stands behind it does not count.
func TestDrawnFaults(t *testing.T) {
	w := &writer{draw: 2}
	for range 4000 {
		s := strings.Join(w.broken(), " ")
		tokens, fault := token.Scan(s)
		if fault != (api.Fault{}) {
			continue // too long
		}
		if _, fault = Parse(s); fault.Err == api.OK || fault.Err == api.ErrMany {
			continue
		}
		if _, ahead := Parse(s[:fault.At]); ahead.Err != api.OK && ahead != (api.Fault{Err: api.ErrForm, At: fault.At}) {
			t.Fatalf("Parse(%q): %v, but of what is ahead: %v", s, fault, ahead)
		}
		if _, less := Parse(s[:behind(tokens, fault.At)]); less != fault {
			t.Fatalf("Parse(%q): %v, but without what is behind: %v", s, fault, less)
		}
	}
}

// behind answers where the token behind the one at this place begins.
func behind(tokens []api.Token, at int) int {
	for _, k := range tokens {
		if k.At > at {
			return k.At
		}
	}
	return at
}

// P1: any tokens get an answer, from both calls.
func TestAnyTokens(t *testing.T) {
	w := &writer{draw: 3}
	for range 4000 {
		var words []string
		for range w.below(20) {
			words = append(words, w.any())
		}
		s := strings.Join(words, " ")
		if p, fault := Parse(s); fault.Err == api.OK {
			wantNumbers(t, s, p)
		} else if fault.At > len(s) || p.Nodes != nil {
			t.Errorf("Parse(%q): %v %v", s, p, fault)
		}
		if types, fault := Type(s); fault.Err == api.OK {
			wantTypeNumbers(t, s, types, []int{len(types) - 1})
		} else if fault.At > len(s) || types != nil {
			t.Errorf("Type(%q): %v %v", s, types, fault)
		}
	}
}

package types

import (
	"fmt"
	"strings"
	"testing"

	"guardrail/api"
	"guardrail/tree"
)

// writer writes types, drawn by numbers that are the same each time.
type writer uint64

func (w *writer) below(n int) int {
	*w = *w*6364136223846793005 + 1442695040888963407
	return int(uint64(*w) >> 33 % uint64(n))
}

// typ answers a type, and the same one with its fields in another order and some brackets more.
func (w *writer) typ(deep int) (string, string) {
	if w.below(4) > 0 {
		return w.member(deep)
	}
	a, b := w.member(deep)
	c, d := w.member(deep)
	return "(" + a + ") | (" + c + ")", "(" + b + ") | ((" + d + "))"
}

func (w *writer) member(deep int) (string, string) {
	if deep == 0 {
		word := strings.Fields("num num num text any unknown {}")[w.below(7)]
		return word, word
	}
	a, b := w.typ(deep - 1)
	switch w.below(4) {
	case 0:
		c, d := w.typ(deep - 1)
		return "{ a: " + a + "; b: " + c + "; }", "{ b: " + d + "; a: (" + b + "); }"
	case 1:
		c, d := w.typ(deep - 1)
		return "(" + a + ") => " + c, "((" + b + ")) => (" + d + ")"
	case 2:
		return "[" + a + "]", "[(" + b + ")]"
	}
	return a, b
}

// D1, D2, D5: the order of fields is nothing; what is the same fits both ways.
func TestDrawnSame(t *testing.T) {
	w := writer(1)
	for range 2000 {
		a, b := w.typ(3)
		wantSame(t, true, a, b)
		wantFits(t, a, b, true, true)
	}
}

// D2, by its words alone.
func fits(a []api.Type, i int, b []api.Type, k int) bool {
	s, t := a[i], b[k]
	switch {
	case s.Kind == api.TypeAny || t.Kind == api.TypeAny:
		return true
	case t.Kind == api.TypeUnknown:
		return true
	case s.Kind == api.TypeUnion:
		for _, x := range s.List {
			if !fits(a, x, b, k) {
				return false
			}
		}
		return true
	case t.Kind == api.TypeUnion:
		for _, y := range t.List {
			if fits(a, i, b, y) {
				return true
			}
		}
		return false
	}
	if s.Kind != t.Kind {
		return false
	}
	for _, want := range t.Fields {
		found := false
		for _, has := range s.Fields {
			found = found || has.Name == want.Name && fits(a, has.Type, b, want.Type)
		}
		if !found {
			return false
		}
	}
	for n, x := range s.List {
		if n >= len(t.List) || !fits(a, x, b, t.List[n]) && !fits(b, t.List[n], a, x) {
			return false
		}
	}
	return s.Kind != api.TypeArray && s.Kind != api.TypeFunc || fits(a, s.Of, b, t.Of)
}

// D2: drawn types, held against each other.
func TestDrawnFits(t *testing.T) {
	w := writer(2)
	count := map[bool]int{}
	for range 6000 {
		deep := w.below(4)
		a, _ := w.typ(deep)
		b, _ := w.typ(deep)
		s, _ := tree.Type(a)
		u, _ := tree.Type(b)
		want := fits(s, len(s)-1, u, len(u)-1)
		count[want]++
		wantFits(t, a, b, want, fits(u, len(u)-1, s, len(s)-1))
	}
	if min(count[true], count[false]) < 1000 {
		t.Errorf("too few of one kind: %v", count)
	}
}

// D4: what is of a union fits it; its tags are theirs; and it is its own union.
func TestDrawnUnion(t *testing.T) {
	w := writer(3)
	for range 2000 {
		a, b := w.typ(2)
		c, _ := w.typ(2)
		all, fault := Union([]string{a, c, b})
		if fault != (api.Fault{}) {
			t.Fatalf("%q, %q: %v", a, c, fault)
		}
		for _, s := range []string{a, b, c} {
			if ok, _ := Fits(s, all); !ok {
				t.Errorf("%q does not fit %q", s, all)
			}
		}
		wantUnion(t, all, a, c)
		wantUnion(t, all, all)
		if x, y, z := tags(a), tags(c), tags(all); x|y != z {
			t.Errorf("the tags of %q are %d, of its parts %d and %d", all, z, x, y)
		}
	}
}

func tags(s string) int {
	tags, fault := Tags(s)
	if fault.Err != api.OK {
		panic(fmt.Sprint(s, fault))
	}
	return tags
}

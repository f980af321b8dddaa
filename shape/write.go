package shape

import (
	"slices"
	"strings"

	"guardrail/api"
)

// Writer writes types; who embeds it writes into the same text what stands about them.
type Writer struct {
	strings.Builder
	Types  []api.Type
	byName bool // fields stand in the order of their names
}

// Say writes words, as they are.
func (w *Writer) Say(words ...string) {
	for _, word := range words {
		w.WriteString(word)
	}
}

// Row writes n parts, by their places, and this between them.
func (w *Writer) Row(n int, between string, part func(k int)) {
	for k := range n {
		if k > 0 {
			w.WriteString(between)
		}
		part(k)
	}
}

// Type writes the type of this number.
func (w *Writer) Type(i int) {
	switch t := w.Types[i]; t.Kind {
	case api.TypeObject:
		w.object(t.Fields)
	case api.TypeArray:
		w.Say("[")
		w.Type(t.Of)
		w.Say("]")
	case api.TypeFunc:
		w.Say("(")
		w.Row(len(t.List), ", ", func(k int) { w.Type(t.List[k]) })
		w.Say(") => ")
		w.Type(t.Of)
	case api.TypeUnion:
		w.union(t.List)
	default:
		w.Say(word(t.Kind))
	}
}

func (w *Writer) object(fields []api.Field) {
	if w.byName {
		fields = slices.Clone(fields)
		slices.SortFunc(fields, func(a, b api.Field) int { return strings.Compare(a.Name, b.Name) })
	}
	w.Say("{")
	for _, f := range fields {
		w.Say(" ", f.Name, ": ")
		w.Type(f.Type)
		w.Say(";")
	}
	if len(fields) > 0 {
		w.Say(" ")
	}
	w.Say("}")
}

func (w *Writer) union(list []int) {
	w.Row(len(list), " | ", func(k int) {
		if !w.needsBrackets(list[k], k == len(list)-1) {
			w.Type(list[k])
			return
		}
		w.Say("(")
		w.Type(list[k])
		w.Say(")")
	})
}

// needsBrackets: a function's result takes every `|` behind it, so that only the last of a union can do without.
func (w *Writer) needsBrackets(i int, last bool) bool {
	kind := w.Types[i].Kind
	return kind == api.TypeUnion || kind == api.TypeFunc && !last
}

func word(kind int) string {
	switch kind {
	case api.TypeNum:
		return "num"
	case api.TypeBool:
		return "bool"
	case api.TypeText:
		return "text"
	case api.TypeNull:
		return "null"
	case api.TypeUnknown:
		return "unknown"
	}
	return "any"
}

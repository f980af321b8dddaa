package run

import (
	"strconv"

	"guardrail/api"
)

// value of an expression; two are the same if they are ==.
type value struct {
	tag   int
	n     int32  // of a number; of a truth 1 or 0
	text  string // of a text
	thing *thing // of an object, an array, a function
}

// thing that a value leads to: it is changed for all that lead to it.
type thing struct {
	parts  map[string]value // of an object
	list   []value          // of an array
	node   int              // of a function,
	around *scope           // and what is around it
}

func number(n int32) value { return value{tag: api.TagNum, n: n} }

func text(s string) value { return value{tag: api.TagText, text: s} }

func null() value { return value{tag: api.TagNull} }

func truth(is bool) value {
	if is {
		return value{tag: api.TagBool, n: 1}
	}
	return value{tag: api.TagBool}
}

// counts as true.
func (v value) counts() bool { return v != null() && v != truth(false) }

// shown as it is printed.
func (v value) shown() string {
	switch v.tag {
	case api.TagNum:
		return strconv.Itoa(int(v.n))
	case api.TagBool:
		return strconv.FormatBool(v.n == 1)
	case api.TagText:
		return v.text
	}
	return v.word()
}

// word that typeof answers.
func (v value) word() string {
	switch v.tag {
	case api.TagNum:
		return "num"
	case api.TagBool:
		return "bool"
	case api.TagText:
		return "text"
	case api.TagNull:
		return "null"
	case api.TagObject:
		return "object"
	case api.TagArray:
		return "array"
	}
	return "function"
}

package run

import "guardrail/api"

// need stops the run at a node whose operation is asked of what can't do it: of a value without this tag.
func need(i int, v value, tag int) {
	if v.tag != tag {
		stop(api.EndWrong, i)
	}
}

// needNumbers, and answer what they are.
func needNumbers(i int, a, b value) (x, y int32) {
	need(i, a, api.TagNum)
	need(i, b, api.TagNum)
	return a.n, b.n
}

// partOf an object, or how many an array has.
func partOf(i int, of value, name string) value {
	if of.tag == api.TagArray && name == "length" {
		return number(int32(len(of.thing.list)))
	}
	need(i, of, api.TagObject)
	if v, ok := of.thing.parts[name]; ok {
		return v
	}
	return null()
}

// arrayPlace: an array, and a number, which may be of none of its places.
func arrayPlace(i int, of, at value) (array *thing, place int) {
	need(i, of, api.TagArray)
	need(i, at, api.TagNum)
	return of.thing, int(at.n)
}

// has an array this place?
func (t *thing) has(place int) bool { return 0 <= place && place < len(t.list) }

// atPlace of an array: null, if it has none such.
func atPlace(i int, of, at value) value {
	array, place := arrayPlace(i, of, at)
	if array.has(place) {
		return array.list[place]
	}
	return null()
}

// one: a sign, or typeof, and what is behind it.
func one(i int, sign string, v value) value {
	switch sign {
	case "!":
		return truth(!v.counts())
	case "typeof":
		return text(v.word())
	}
	need(i, v, api.TagNum)
	return number(-v.n)
}

// two, and the sign between them.
func two(i int, sign string, a, b value) value {
	switch {
	case sign == "==":
		return truth(a == b)
	case sign == "+" && a.tag == api.TagText:
		need(i, b, api.TagText)
		return joined(a.text + b.text)
	}
	x, y := needNumbers(i, a, b)
	switch sign {
	case "+":
		return number(x + y)
	case "-":
		return number(x - y)
	case "*":
		return number(x * y)
	}
	return truth(x < y)
}

// joined: a text that is not longer than a line may be.
func joined(s string) value { return text(s[:min(len(s), api.MaxLine)]) }

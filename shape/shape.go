// Package shape: types by their parts, as tree numbers them: how they are written, which are the same, and what fits what.
// It is what the layers that have types in common lean on; texts, and their limits, are theirs.
package shape

import "guardrail/api"

// List has types by their numbers; the parts of each are ahead of it.
type List struct {
	types []api.Type
	fits  map[pair]int
}

// New list, of no types.
func New() *List { return &List{fits: map[pair]int{}} }

// Add puts types, numbered among themselves, behind those that are there, and answers the number of the last one.
func (l *List) Add(types ...api.Type) int {
	by := len(l.types)
	for _, t := range types {
		l.types = append(l.types, moved(t, by))
	}
	return len(l.types) - 1
}

// moved copies a type, so that what was handed in is not kept.
func moved(t api.Type, by int) api.Type {
	m := api.Type{Kind: t.Kind, Of: t.Of + by}
	for _, f := range t.Fields {
		m.Fields = append(m.Fields, api.Field{Name: f.Name, Type: f.Type + by})
	}
	for _, i := range t.List {
		m.List = append(m.List, i+by)
	}
	return m
}

// Put a type behind all, whose parts are there already, and answer its number; it is kept as it is.
func (l *List) Put(t api.Type) int {
	l.types = append(l.types, t)
	return len(l.types) - 1
}

// Get the type of this number; it is only read.
func (l *List) Get(i int) api.Type { return l.types[i] }

// Size: how many types are in it, itself and all that it is made of, as often as they are.
func (l *List) Size(i int) int {
	size := 1
	t := l.types[i]
	for _, k := range t.List {
		size += l.Size(k)
	}
	for _, f := range t.Fields {
		size += l.Size(f.Type)
	}
	if t.Kind == api.TypeArray || t.Kind == api.TypeFunc {
		size += l.Size(t.Of)
	}
	return size
}

// Text of a type.
func (l *List) Text(i int) string { return l.text(&Writer{}, i) }

// key is the same text for all types that are the same.
func (l *List) key(i int) string { return l.text(&Writer{byName: true}, i) }

func (l *List) text(w *Writer, i int) string {
	w.Types = l.types
	w.Type(i)
	return w.String()
}

// Same: are they written alike, but for the order of fields?
func (l *List) Same(a, b int) bool { return l.key(a) == l.key(b) }

// Tags that what has this type may have.
func (l *List) Tags(i int) int {
	switch t := l.types[i]; t.Kind {
	case api.TypeNum:
		return api.TagNum
	case api.TypeBool:
		return api.TagBool
	case api.TypeText:
		return api.TagText
	case api.TypeNull:
		return api.TagNull
	case api.TypeObject:
		return api.TagObject
	case api.TypeArray:
		return api.TagArray
	case api.TypeFunc:
		return api.TagFunc
	case api.TypeUnion:
		tags := 0
		for _, k := range t.List {
			tags |= l.Tags(k)
		}
		return tags
	}
	return api.TagsAll
}

// Union of types: its number.
func (l *List) Union(types ...int) int {
	var list []int
	seen := map[string]int{}
	for _, i := range l.apart(types...) {
		if l.types[i].Kind == api.TypeAny {
			return i
		}
		key := l.key(i)
		seen[key]++
		if seen[key] == 1 {
			list = append(list, i)
		}
	}
	switch len(list) {
	case 0:
		return l.Put(api.Type{Kind: api.TypeAny})
	case 1:
		return list[0]
	}
	return l.Put(api.Type{Kind: api.TypeUnion, List: list})
}

// apart answers these types, and instead of unions what they are of.
func (l *List) apart(types ...int) []int {
	var out []int
	for _, i := range types {
		if t := l.types[i]; t.Kind == api.TypeUnion {
			out = append(out, l.apart(t.List...)...)
		} else {
			out = append(out, i)
		}
	}
	return out
}

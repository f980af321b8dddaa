package shape

import (
	"slices"

	"guardrail/api"
)

type pair struct{ a, b int }

// What was found of two functions; 0 is nothing yet.
const (
	fitsYes = 1
	fitsNo  = 2
)

// Fits: may what has type a be where b is asked for?
func (l *List) Fits(a, b int) bool {
	s, t := l.types[a], l.types[b]
	switch {
	case s.Kind == api.TypeAny || t.Kind == api.TypeAny || t.Kind == api.TypeUnknown:
		return true
	case s.Kind == api.TypeUnion:
		return !slices.ContainsFunc(s.List, func(k int) bool { return !l.Fits(k, b) })
	case t.Kind == api.TypeUnion:
		return slices.ContainsFunc(t.List, func(k int) bool { return l.Fits(a, k) })
	case s.Kind != t.Kind:
		return false
	}
	switch s.Kind {
	case api.TypeObject:
		return l.objectFits(s.Fields, t.Fields)
	case api.TypeArray:
		return l.Fits(s.Of, t.Of)
	case api.TypeFunc:
		return l.functionFits(a, b)
	}
	return true
}

func (l *List) objectFits(has, wants []api.Field) bool {
	return !slices.ContainsFunc(wants, func(want api.Field) bool {
		k := slices.IndexFunc(has, func(f api.Field) bool { return f.Name == want.Name })
		return k < 0 || !l.Fits(has[k].Type, want.Type)
	})
}

// functionFits keeps what it found: as params are held against each other both ways, what is deep in them would be asked for twice as often with each function around it.
func (l *List) functionFits(a, b int) bool {
	both := pair{a, b}
	found := l.fits[both]
	if found == 0 {
		found = fitsNo
		if l.paramsFit(l.types[a].List, l.types[b].List) && l.Fits(l.types[a].Of, l.types[b].Of) {
			found = fitsYes
		}
		l.fits[both] = found
	}
	return found == fitsYes
}

func (l *List) paramsFit(a, b []int) bool {
	if len(a) > len(b) {
		return false
	}
	for k := range a {
		if !l.Fits(a[k], b[k]) && !l.Fits(b[k], a[k]) {
			return false
		}
	}
	return true
}

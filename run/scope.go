package run

// scope: the names of a block that runs, and what is around it; a function keeps the one that it was made in.
type scope struct {
	own    map[int]value // by lets and params
	around *scope
}

func newScope(around *scope) *scope {
	return &scope{own: map[int]value{}, around: around}
}

// of answers the scope, this one or one around it, that has a let or a param; a name is used where it has one alone.
func (s *scope) of(name int) *scope {
	for {
		if _, ok := s.own[name]; ok {
			return s
		}
		s = s.around
	}
}

func (s *scope) get(name int) value { return s.of(name).own[name] }

func (s *scope) set(name int, v value) { s.of(name).own[name] = v }

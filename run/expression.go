package run

import "guardrail/api"

// value of an expression, that its guard let through.
func (m *machine) value(i int, around *scope) value {
	m.spend()
	return m.guarded(i, m.expression(i, around))
}

// values of expressions, one behind the other.
func (m *machine) values(list []int, around *scope) []value {
	var all []value
	for _, i := range list {
		all = append(all, m.value(i, around))
	}
	return all
}

func (m *machine) expression(i int, around *scope) value {
	switch n := m.Nodes[i]; n.Kind {
	case api.NodeNum:
		return number(int32(n.N))
	case api.NodeText:
		return text(n.Text)
	case api.NodeBool:
		return truth(n.N == 1)
	case api.NodeVar:
		return around.get(m.Names[i])
	case api.NodeFunc:
		m.made(i)
		return value{tag: api.TagFunc, thing: &thing{node: i, around: around}}
	case api.NodeCall:
		return m.call(i, around)
	case api.NodeGet:
		return partOf(i, m.value(n.A, around), n.Text)
	case api.NodeAt:
		of := m.value(n.A, around)
		return atPlace(i, of, m.value(n.B, around))
	case api.NodeObject:
		return m.object(i, around)
	case api.NodeArray:
		list := m.values(n.List, around)
		m.made(i)
		return value{tag: api.TagArray, thing: &thing{list: list}}
	case api.NodeTwo:
		a := m.value(n.A, around)
		return two(i, n.Text, a, m.value(n.B, around))
	case api.NodeOne:
		return one(i, n.Text, m.value(n.A, around))
	case api.NodeAs:
		return m.value(n.A, around)
	}
	return null()
}

// object: it is made behind its parts, as all is that has some.
func (m *machine) object(i int, around *scope) value {
	parts := map[string]value{}
	for _, k := range m.Nodes[i].List {
		part := m.Nodes[k]
		parts[part.Text] = m.value(part.A, around)
	}
	m.made(i)
	return value{tag: api.TagObject, thing: &thing{parts: parts}}
}

func (m *machine) call(i int, around *scope) value {
	n := m.Nodes[i]
	called := m.value(n.A, around)
	handed := m.values(n.List, around)
	need(i, called, api.TagFunc)
	if m.calls == api.MaxCalls {
		stop(api.EndDeep, i)
	}
	m.calls++
	v := m.enter(called.thing, handed)
	m.calls--
	return v
}

// enter a function, and answer what it returns.
func (m *machine) enter(f *thing, handed []value) (v value) {
	defer func() {
		r := recover()
		if back, ok := r.(returned); ok {
			v = back.value
		} else if r != nil {
			panic(r)
		}
	}()
	n := m.Nodes[f.node]
	m.block(n.A, m.params(n.List, handed, f.around))
	return null()
}

// params that have what is handed in, or null, if there is no more of it.
func (m *machine) params(list []int, handed []value, around *scope) *scope {
	own := newScope(around)
	for k, param := range list {
		v := null()
		if k < len(handed) {
			v = handed[k]
		}
		own.own[param] = m.guarded(param, v)
	}
	return own
}

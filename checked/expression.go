package checked

import (
	"slices"

	"guardrail/api"
)

func (p *Program) expression(i int) int {
	switch n := p.Nodes[i]; n.Kind {
	case api.NodeNum:
		return p.plain[api.TypeNum]
	case api.NodeText:
		return p.plain[api.TypeText]
	case api.NodeBool:
		return p.plain[api.TypeBool]
	case api.NodeVar:
		return p.has(p.Names[i])
	case api.NodeFunc:
		return p.Of[i]
	case api.NodeCall:
		return p.call(i)
	case api.NodeGet:
		return p.field(i)
	case api.NodeAt:
		return p.place(i)
	case api.NodeObject:
		return p.object(n)
	case api.NodeArray:
		return p.array(n)
	case api.NodeTwo:
		return p.two(i)
	case api.NodeOne:
		return p.one(i)
	case api.NodeAs:
		return n.Type
	}
	return p.plain[api.TypeNull]
}

// function's type: a param and a result without a type are any.
func (p *Program) function(n api.Node) int {
	t := api.Type{Kind: api.TypeFunc, Of: p.result(n)}
	for _, k := range n.List {
		t.List = append(t.List, p.has(k))
	}
	return p.Put(t)
}

func (p *Program) object(n api.Node) int {
	t := api.Type{Kind: api.TypeObject}
	for _, k := range n.List {
		part := p.Nodes[k]
		t.Fields = append(t.Fields, api.Field{Name: part.Text, Type: p.Of[part.A]})
	}
	return p.Put(t)
}

func (p *Program) array(n api.Node) int {
	var within []int
	for _, k := range n.List {
		within = append(within, p.Of[k])
	}
	return p.Put(api.Type{Kind: api.TypeArray, Of: p.Union(within...)})
}

func (p *Program) call(i int) int {
	n := p.Nodes[i]
	t := p.Get(p.Of[n.A])
	if t.Kind == api.TypeAny {
		return p.Of[n.A]
	}
	if t.Kind != api.TypeFunc || len(n.List) != len(t.List) {
		p.wrong(i)
	}
	p.fitAll(i)
	return t.Of
}

// field that is got, or put to.
func (p *Program) field(i int) int {
	n := p.Nodes[i]
	t := p.Get(p.Of[n.A])
	switch {
	case t.Kind == api.TypeAny:
		return p.Of[n.A]
	case t.Kind == api.TypeArray && n.Text == "length":
		return p.plain[api.TypeNum]
	}
	k := slices.IndexFunc(t.Fields, func(f api.Field) bool { return f.Name == n.Text })
	if k < 0 {
		p.wrong(i)
	}
	return t.Fields[k].Type
}

// place that is looked at, or laid to.
func (p *Program) place(i int) int {
	n := p.Nodes[i]
	p.fit(i, n.B, p.plain[api.TypeNum])
	t := p.Get(p.Of[n.A])
	if t.Kind == api.TypeAny {
		return p.Of[n.A]
	}
	if t.Kind != api.TypeArray {
		p.wrong(i)
	}
	return t.Of
}

func (p *Program) two(i int) int {
	n := p.Nodes[i]
	switch n.Text {
	case "==":
		return p.plain[api.TypeBool]
	case "+":
		return p.sum(i)
	}
	p.numbers(i, n.A, n.B)
	if n.Text == "<" {
		return p.plain[api.TypeBool]
	}
	return p.plain[api.TypeNum]
}

func (p *Program) one(i int) int {
	n := p.Nodes[i]
	switch n.Text {
	case "!":
		return p.plain[api.TypeBool]
	case "typeof":
		return p.plain[api.TypeText]
	}
	p.numbers(i, n.A)
	return p.plain[api.TypeNum]
}

// sum: if one is any, the other may be what it likes.
func (p *Program) sum(i int) int {
	n := p.Nodes[i]
	a, b := p.kind(n.A), p.kind(n.B)
	switch {
	case a == api.TypeAny || b == api.TypeAny:
		return p.plain[api.TypeAny]
	case a != b || a != api.TypeNum && a != api.TypeText:
		p.wrong(i)
	}
	return p.plain[a]
}

// numbers gives up at a node that has a part that is neither num nor any.
func (p *Program) numbers(i int, parts ...int) {
	for _, k := range parts {
		if kind := p.kind(k); kind != api.TypeNum && kind != api.TypeAny {
			p.wrong(i)
		}
	}
}

// kind of what an expression has.
func (p *Program) kind(i int) int { return p.Get(p.Of[i]).Kind }

// IsAny: has an expression the type any?
func (p *Program) IsAny(i int) bool { return p.kind(i) == api.TypeAny }

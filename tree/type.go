package tree

import "guardrail/api"

func (p *parser) typ() int {
	begins := p.is("num", "bool", "text", "null", "any", "unknown", "{", "[", "(")
	return p.inside(begins, p.union)
}

func (p *parser) union() int {
	first := p.member()
	if !p.is("|") {
		return first
	}
	list := []int{first}
	for p.took("|") {
		list = append(list, p.member())
	}
	return p.addType(api.Type{Kind: api.TypeUnion, List: list})
}

// member reads a type that is no union, but in brackets.
func (p *parser) member() int {
	switch {
	case p.took("{"):
		return p.objectType()
	case p.took("["):
		of := p.typ()
		p.need("]")
		return p.addType(api.Type{Kind: api.TypeArray, Of: of})
	case p.took("("):
		return p.functionOrBrackets()
	}
	return p.plainType()
}

func (p *parser) plainType() int {
	kind := 0
	if p.token().Kind == api.TokenWord {
		kind = plainKind(p.token().Text)
	}
	if kind == 0 {
		p.fail(api.ErrForm)
	}
	p.next++
	return p.addType(api.Type{Kind: kind})
}

// plainKind answers the kind of type that a word is: 0 if it is none.
func plainKind(word string) int {
	switch word {
	case "num":
		return api.TypeNum
	case "bool":
		return api.TypeBool
	case "text":
		return api.TypeText
	case "null":
		return api.TypeNull
	case "any":
		return api.TypeAny
	case "unknown":
		return api.TypeUnknown
	}
	return 0
}

func (p *parser) objectType() int {
	var names []string
	var fields []api.Field
	for !p.took("}") {
		name := p.newName(&names)
		p.need(":")
		of := p.typ()
		p.need(";")
		fields = append(fields, api.Field{Name: name, Type: of})
	}
	return p.addType(api.Type{Kind: api.TypeObject, Fields: fields})
}

// functionOrBrackets reads from behind a `(` on: only what stands behind the `)` tells which it is.
func (p *parser) functionOrBrackets() int {
	list := p.list(")", p.typ)
	if p.took("=>") {
		return p.addType(api.Type{Kind: api.TypeFunc, List: list, Of: p.typ()})
	}
	if len(list) != 1 {
		p.fail(api.ErrForm)
	}
	return list[0]
}

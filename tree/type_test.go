package tree

import (
	"testing"

	"guardrail/api"
)

// B3: each type.
func TestTypes(t *testing.T) {
	for _, s := range []string{"num", "bool", "text", "null", "any", "unknown"} {
		wantType(t, s, s)
		wantType(t, " ( "+s+" )\n", s)
	}
	wantType(t, "num | text", "(num|text)")
	wantType(t, "num | text | num", "(num|text|num)")
	wantType(t, "(num | text) | null", "((num|text)|null)")
	wantType(t, "num | (text | null)", "(num|(text|null))")
	wantType(t, "{}", "{}")
	wantType(t, "{ a: num; }", "{a:num}")
	wantType(t, "{ b: num | text; a: { b: any; }; }", "{b:(num|text) a:{b:any}}")
	wantType(t, "[num]", "[num]")
	wantType(t, "[[num | {}]]", "[[(num|{})]]")
}

// B3: a function's result goes as far as it can; brackets without => are none.
func TestFunctionTypes(t *testing.T) {
	wantType(t, "() => num", "<>num")
	wantType(t, "(num) => num", "<num>num")
	wantType(t, "(num, [text], {}) => any", "<num [text] {}>any")
	wantType(t, "((num)) => num", "<num>num")
	wantType(t, "(num | text, null) => num", "<(num|text) null>num")
	wantType(t, "() => num | text", "<>(num|text)")
	wantType(t, "(() => num) | text", "(<>num|text)")
	wantType(t, "text | () => num | null", "(text|<>(num|null))")
	wantType(t, "() => () => num | text", "<><>(num|text)")
	wantType(t, "(() => num) => num", "<<>num>num")
	wantType(t, "{ f: () => num | text; }", "{f:<>(num|text)}")
}

// B3, B5: what is no type; the end can't stand there, nor anything behind the type.
func TestNoType(t *testing.T) {
	wantTypeFault(t, api.ErrForm,
		"^", " ^", "^x", "^1", "^\"num\"", "^let", "^|", "^| num", "num ^num", "num |^", "num | ^| text", "num ^;", "num ^=> num", "num^, text",
		"{ a: num ^}", "{ a^; }", "{ a: ^; }", "{ ^: num; }", "{ ^num: num; }", "{ a: num^, b: num; }", "{ a: num;^", "{^", "{ ^; }", "{ a: num; ^; }", "{ a: num; ^] }",
		"[^]", "[num^", "[num^, num]", "[num^}", "(^", "()^", "() ^| num", "(num^", "(num,^) => num", "(^, num) => num", "(num, text)^", "(num, text) ^= 1", "(num) ^= num", "(num) ^== num", "() =>^", "() => ^=> num", "(num) => ^x", "(num ^text) => num")
	wantFault(t, api.ErrForm, "let x: (num, text) ^= 1;", "let x: ^y = 1;", "let x: num |^= 1;", "let x: () ^= 1;", "let x: num ^: num = 1;")
}

// B3, B5: a field's name that is there already.
func TestFieldTwice(t *testing.T) {
	wantTypeFault(t, api.ErrTwice, "{ a: num; ^a: num; }", "{ a: num; b: num; ^a", "{ a: { b: num; c: num; ^b: num; }; a: num; }", "[{ a: num; ^a: text; }")
	wantType(t, "{ a: { a: num; }; b: { a: num; }; }", "{a:{a:num} b:{a:num}}")
	wantFault(t, api.ErrTwice, "let x: { a: num; ^a: num; } = 1;")
}

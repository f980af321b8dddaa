package shape

import (
	"testing"

	"guardrail/api"
)

// What is added is numbered anew, and not kept as it was handed in.
func TestAdd(t *testing.T) {
	types := []api.Type{
		{Kind: api.TypeNum},
		{Kind: api.TypeText},
		{Kind: api.TypeObject, Fields: []api.Field{{Name: "b", Type: 0}, {Name: "a", Type: 1}}},
		{Kind: api.TypeFunc, List: []int{2}, Of: 1},
	}
	const want = "({ b: num; a: text; }) => text"
	l := New()
	for i := range 3 {
		if got := l.Add(types...); got != 4*i+3 || l.Text(got) != want {
			t.Errorf("type %d is %s", got, l.Text(got))
		}
	}
	types[2].Fields[0].Name, types[3].List[0] = "c", 0
	for _, i := range []int{3, 7, 11} {
		if l.Text(i) != want || !l.Same(3, i) || !l.Fits(i, 11) {
			t.Errorf("type %d is %s now", i, l.Text(i))
		}
	}
}

// A union is put behind all, but what is there already is not.
func TestUnionNumber(t *testing.T) {
	l := New()
	num, text := l.Add(api.Type{Kind: api.TypeNum}), l.Add(api.Type{Kind: api.TypeText})
	if l.Union(num, num) != num {
		t.Errorf("a union of one is another")
	}
	both := l.Union(num, text)
	if both != 2 || l.Text(both) != "num | text" || l.Text(l.Union(both, text)) != "num | text" {
		t.Errorf("the union is %d: %s", both, l.Text(both))
	}
}

package shape

import (
	"testing"

	"guardrail/api"
)

// What is added is numbered anew, and not kept as it was handed in.
func TestAdd(t *testing.T) {
	types := []api.Type{
		{Kind: api.TypeNum},
		{Kind: api.TypeText},
		{Kind: api.TypeObject, Fields: []api.Field{{Name: "b", Type: 0}, {Name: "a", Type: 1}}},
		{Kind: api.TypeFunc, List: []int{2}, Of: 1},
	}
	const want = "({ b: num; a: text; }) => text"
	l := New()
	for i := range 3 {
		if got := l.Add(types...); got != 4*i+3 || l.Text(got) != want {
			t.Errorf("type %d is %s", got, l.Text(got))
		}
	}
	types[2].Fields[0].Name, types[3].List[0] = "c", 0
	for _, i := range []int{3, 7, 11} {
		if l.Text(i) != want || !l.Same(3, i) || !l.Fits(i, 11) {
			t.Errorf("type %d is %s now", i, l.Text(i))
		}
	}
}

// A union is put behind all, but what is there already is not.
func TestUnionNumber(t *testing.T) {
	l := New()
	num, text := l.Add(api.Type{Kind: api.TypeNum}), l.Add(api.Type{Kind: api.TypeText})
	if l.Union(num, num) != num {
		t.Errorf("a union of one is another")
	}
	both := l.Union(num, text)
	if both != 2 || l.Text(both) != "num | text" || l.Text(l.Union(both, text)) != "num | text" {
		t.Errorf("the union is %d: %s", both, l.Text(both))
	}
}

// What is put has the next number, and is got again.
func TestPut(t *testing.T) {
	l := New()
	num := l.Put(api.Type{Kind: api.TypeNum})
	array := l.Put(api.Type{Kind: api.TypeArray, Of: num})
	if num != 0 || array != 1 || l.Get(array).Of != num || l.Text(array) != "[num]" {
		t.Errorf("%d, %d: %s", num, array, l.Text(array))
	}
}

// The size of a type counts all in it, as often as they are.
func TestSize(t *testing.T) {
	l := New()
	num := l.Put(api.Type{Kind: api.TypeNum})
	array := l.Put(api.Type{Kind: api.TypeArray, Of: num})
	none := l.Put(api.Type{Kind: api.TypeObject})
	object := l.Put(api.Type{Kind: api.TypeObject, Fields: []api.Field{{Name: "a", Type: array}, {Name: "b", Type: array}}})
	union := l.Put(api.Type{Kind: api.TypeUnion, List: []int{num, num, object}})
	empty := l.Put(api.Type{Kind: api.TypeFunc, Of: array})
	function := l.Put(api.Type{Kind: api.TypeFunc, List: []int{union, num}, Of: object})
	for i, want := range map[int]int{num: 1, array: 2, none: 1, object: 5, union: 8, empty: 3, function: 15} {
		if got := l.Size(i); got != want {
			t.Errorf("the size of %s is %d, and must be %d", l.Text(i), got, want)
		}
	}
}

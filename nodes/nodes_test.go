package nodes

import (
	"fmt"
	"slices"
	"testing"

	"guardrail/api"
	"guardrail/tree"
)

// all has each kind of node, an `if` without else, and functions within each other and behind each other.
const all = `let o: any = { a: 1, b: "t" };
let f = fn(x: num, y) {
  if (x < 2) { return fn(z) { z = null; return z; }; } else { y = [true, -x]; }
  while (y) { print y as num; }
  if (f(x, y)) {}
};
o.a = fn() { f(1, 2); };
o[0] = o.a;
o[1];`

func parse(t *testing.T, s string) []api.Node {
	t.Helper()
	program, fault := tree.Parse(s)
	if fault.Err != api.OK {
		t.Fatal(fault)
	}
	return program.Nodes
}

// Each node but the last is a part of one, and of no other; parts stand as in the text.
func TestParts(t *testing.T) {
	list := parse(t, all)
	seen := map[int]int{}
	kinds := map[int]int{}
	for i, n := range list {
		kinds[n.Kind]++
		parts := Parts(n)
		if !slices.IsSorted(parts) {
			t.Errorf("the parts of node %d: %v", i, parts)
		}
		for _, k := range parts {
			seen[k]++
			if k >= i || list[k].At < n.At {
				t.Errorf("node %d has part %d", i, k)
			}
		}
	}
	for i := range len(list) - 1 {
		if seen[i] != 1 {
			t.Errorf("node %d is a part %d times", i, seen[i])
		}
	}
	for kind := api.NodeNum; kind <= api.NodeBlock; kind++ {
		if kinds[kind] == 0 {
			t.Errorf("no node of kind %d is seen", kind)
		}
	}
}

// Parts are new memory: what is behind them is not the node's.
func TestPartsAreNew(t *testing.T) {
	room := []int{1, 2, 3}
	for _, kind := range []int{api.NodeFunc, api.NodeCall, api.NodeArray} {
		parts := Parts(api.Node{Kind: kind, List: room[:2], A: 9})
		for k := range parts {
			parts[k] = 7
		}
		if !slices.Equal(room, []int{1, 2, 3}) {
			t.Errorf("kind %d: %v", kind, room)
		}
	}
}

// Expressions are those that have a type.
func TestIsExpression(t *testing.T) {
	var got []int
	for kind := range api.NodeBlock + 1 {
		if IsExpression(api.Node{Kind: kind}) {
			got = append(got, kind)
		}
	}
	want := "[1 2 3 4 5 6 7 8 9 10 11 12 13 14]"
	if fmt.Sprint(got) != want {
		t.Errorf("%v, and must be %s", got, want)
	}
}

// around goes through all functions from the outermost one on: those that a node is not in have no say.
func around(list []api.Node, i int) int {
	in := None
	for k, n := range slices.Backward(list) {
		if n.Kind == api.NodeFunc && within(list, k, i) {
			in = k
		}
	}
	return in
}

func within(list []api.Node, i, part int) bool {
	return slices.ContainsFunc(Parts(list[i]), func(k int) bool { return k == part || within(list, k, part) })
}

// The innermost function around each node.
func TestFunctions(t *testing.T) {
	list := parse(t, all)
	got := Functions(list)
	outer := map[int]int{}
	for i := range list {
		if got[i] != around(list, i) {
			t.Errorf("around node %d: %d, and must be %d", i, got[i], around(list, i))
		}
		outer[got[i]]++
	}
	if len(got) != len(list) || len(outer) != 4 {
		t.Errorf("%v", outer)
	}
	if got := Functions(parse(t, "")); !slices.Equal(got, []int{None}) {
		t.Errorf("of nothing: %v", got)
	}
}

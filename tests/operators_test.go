package tests

import (
	"fmt"
	"math"
	"slices"
	"strings"
	"testing"

	"loop.example/g00973/impl"
)

// kindNames has the name of each kind at its number.
var kindNames = []string{1: "in", 2: "add", 3: "keep", 4: "move", 5: "min", 6: "new", 7: "back", 8: "out"}

// nodeOf returns the node with the given kind, A, B and successors.
func nodeOf(kind int, a int, b int, outs ...int) impl.Node {
	return impl.Node{Kind: kind, A: a, B: b, Outs: outs}
}

// plainNodeOk goes by the numbers that the document gives.
func plainNodeOk(x impl.Node) bool {
	within := func(n int, least int, most int) bool { return least <= n && n <= most }
	ok := within(x.Kind, 1, 8) && len(x.Outs) <= 2
	switch x.Kind {
	case 2:
		ok = ok && within(x.A, 0, 999) && x.B == 0
	case 3:
		ok = ok && within(x.A, 1, 10) && within(x.B, 0, 9) && x.B < x.A
	case 4:
		ok = ok && within(x.A, 0, 99) && x.B == 0
	default:
		ok = ok && x.A == 0 && x.B == 0
	}
	seen := map[int]bool{}
	for _, op := range x.Outs {
		ok = ok && x.Kind != 8 && within(op, 0, 7) && !seen[op]
		seen[op] = true
	}
	return ok
}

// plainChanged counts up instead of adding and dividing.
func plainChanged(x impl.Node, key int, val int) (int, int, bool) {
	if !plainNodeOk(x) || key < 0 || key > 99 || val < 0 || val > 999 {
		return key, val, false
	}
	passes := x.Kind != 8
	switch x.Kind {
	case 2:
		for n := 0; n < x.A && val < 999; n++ {
			val++
		}
	case 3:
		rest := key
		for rest >= x.A {
			rest -= x.A
		}
		passes = rest == x.B
	case 4:
		for range x.A {
			key++
			if key == 100 {
				key = 0
			}
		}
	}
	return key, val, passes
}

// plainNodeText is written with the package fmt.
func plainNodeText(x impl.Node) string {
	name := "?"
	if x.Kind >= 1 && x.Kind <= 8 {
		name = kindNames[x.Kind]
	}
	text := fmt.Sprintf("%s %d %d", name, x.A, x.B)
	for _, op := range x.Outs {
		text += fmt.Sprintf(" %d", op)
	}
	return text
}

// bareNodes returns a node without successors for every valid choice of Kind, A and B.
func bareNodes() []impl.Node {
	var nodes []impl.Node
	for _, kind := range []int{1, 5, 6, 7, 8} {
		nodes = append(nodes, nodeOf(kind, 0, 0))
	}
	for a := range 1000 {
		nodes = append(nodes, nodeOf(2, a, 0))
	}
	for a := 1; a <= 10; a++ {
		for b := range a {
			nodes = append(nodes, nodeOf(3, a, b))
		}
	}
	for a := range 100 {
		nodes = append(nodes, nodeOf(4, a, 0))
	}
	return nodes
}

// validOuts returns every list of successors that a node other than an output may have.
func validOuts() [][]int {
	lists := [][]int{nil, {}}
	for a := range 8 {
		lists = append(lists, []int{a})
		for b := range 8 {
			if a != b {
				lists = append(lists, []int{a, b})
			}
		}
	}
	return lists
}

// wrongOuts returns lists of successors that no node may have.
func wrongOuts() [][]int {
	least, most := math.MinInt, math.MaxInt
	lists := [][]int{
		{-1}, {8}, {9}, {least}, {most},
		{-1, 0}, {0, -1}, {8, 7}, {7, 8}, {8, 9}, {-2, -1}, {-1, 8},
		{least, 3}, {3, least}, {most, 3}, {3, most}, {least, most},
		// Numbers whose low bits are those of an operator.
		{256}, {1 << 32}, {1<<32 + 7, 6}, {least + 2},
		{-1, -1}, {8, 8}, {least, least}, {most, most},
		{0, 1, 2}, {5, 6, 7}, {2, 1, 0}, {0, 1, 0}, {0, 0, 1}, {1, 0, 0}, {3, 3, 3},
		{0, 1, -1}, {0, 1, 8}, {0, 1, 2, 3}, {0, 1, 2, 3, 4, 5, 6, 7}, {0, 1, 2, 3, 4, 5, 6, 7, 0},
		make([]int, 1000),
	}
	for op := range 8 {
		lists = append(lists, []int{op, op})
	}
	return lists
}

// strangeKinds returns numbers that are no kind, among them those whose low bits are a kind's.
func strangeKinds() []int {
	numbers := []int{0, math.MinInt, math.MaxInt - 1, math.MaxInt}
	for kind := 1; kind <= 8; kind++ {
		numbers = append(numbers, -kind, kind+8, kind+16, kind+256, kind+1<<16, kind+1<<32, kind+math.MinInt)
	}
	return numbers
}

// wrongNodes returns nodes that are not valid, most of them for one reason alone.
func wrongNodes() []impl.Node {
	least, most := math.MinInt, math.MaxInt
	nodes := []impl.Node{
		nodeOf(2, -1, 0), nodeOf(2, 1000, 0), nodeOf(2, 1001, 0), nodeOf(2, least, 0), nodeOf(2, most, 0),
		nodeOf(2, 5, 1), nodeOf(2, 5, -1), nodeOf(2, 0, 1), nodeOf(2, 999, 1), nodeOf(2, 5, least), nodeOf(2, 5, most),
		nodeOf(3, 0, 0), nodeOf(3, -1, 0), nodeOf(3, 11, 0), nodeOf(3, 11, 10), nodeOf(3, 100, 99), nodeOf(3, least, 0), nodeOf(3, most, 0), nodeOf(3, most, most-1),
		nodeOf(3, 0, -1), nodeOf(3, -1, -2), nodeOf(3, least, most), nodeOf(3, least, 5), nodeOf(3, least+1, least),
		nodeOf(3, 1, 1), nodeOf(3, 1, -1), nodeOf(3, 10, 10), nodeOf(3, 10, -1), nodeOf(3, 10, 11), nodeOf(3, 3, 3), nodeOf(3, 3, 4), nodeOf(3, 3, -1), nodeOf(3, 3, least), nodeOf(3, 3, most),
		nodeOf(4, -1, 0), nodeOf(4, 100, 0), nodeOf(4, 101, 0), nodeOf(4, 999, 0), nodeOf(4, least, 0), nodeOf(4, most, 0),
		nodeOf(4, 2, 1), nodeOf(4, 2, -1), nodeOf(4, 0, 1), nodeOf(4, 99, 1), nodeOf(4, 2, least), nodeOf(4, 2, most),
	}
	for _, kind := range []int{1, 5, 6, 7, 8} {
		for _, n := range []int{1, -1, 10, least, most} {
			nodes = append(nodes, nodeOf(kind, n, 0), nodeOf(kind, 0, n))
		}
	}
	for _, kind := range strangeKinds() {
		nodes = append(nodes, nodeOf(kind, 0, 0), nodeOf(kind, 0, 0, 3), nodeOf(kind, 1, 0))
	}
	for _, outs := range wrongOuts() {
		for kind := 1; kind <= 7; kind++ {
			nodes = append(nodes, nodeOf(kind, leastA(kind), 0, outs...))
		}
	}
	for _, outs := range [][]int{{0}, {1}, {7}, {0, 1}, {7, 0}, {-1}, {8}, {3, 3}, {0, 1, 2}} {
		nodes = append(nodes, nodeOf(8, 0, 0, outs...))
	}
	return nodes
}

// leastA returns the least A that is valid for a kind.
func leastA(kind int) int {
	if kind == impl.OpKeep {
		return 1
	}
	return 0
}

func TestKinds(t *testing.T) {
	kinds := []int{impl.OpIn, impl.OpAdd, impl.OpKeep, impl.OpMove, impl.OpMin, impl.OpNew, impl.OpBack, impl.OpOut}
	if want := []int{1, 2, 3, 4, 5, 6, 7, 8}; !slices.Equal(kinds, want) {
		t.Errorf("the kinds are %v, want %v", kinds, want)
	}
	// The constants have no type of their own: they can be values of any numeric type.
	small := []int8{impl.OpIn, impl.OpAdd, impl.OpKeep, impl.OpMove, impl.OpMin, impl.OpNew, impl.OpBack, impl.OpOut}
	for at, kind := range small {
		if int(kind) != at+1 {
			t.Errorf("kind %d is %d", at+1, kind)
		}
	}
}

func TestNodeOk(t *testing.T) {
	cases := []struct {
		name string
		x    impl.Node
		want bool
	}{
		{"the zero node", impl.Node{}, false},
		{"an input", impl.Node{Kind: impl.OpIn}, true},
		{"an input with two successors", impl.Node{Kind: impl.OpIn, Outs: []int{1, 2}}, true},
		{"an input with A", impl.Node{Kind: impl.OpIn, A: 1}, false},
		{"an input with B", impl.Node{Kind: impl.OpIn, B: 1}, false},
		{"kind 9", impl.Node{Kind: 9}, false},
		{"kind -1", impl.Node{Kind: -1}, false},
		{"the least kind", impl.Node{Kind: math.MinInt}, false},
		{"the largest kind", impl.Node{Kind: math.MaxInt}, false},
		{"add 0", impl.Node{Kind: impl.OpAdd, A: 0}, true},
		{"add 5", impl.Node{Kind: impl.OpAdd, A: 5, Outs: []int{1}}, true},
		{"add 999", impl.Node{Kind: impl.OpAdd, A: 999}, true},
		{"add 1000", impl.Node{Kind: impl.OpAdd, A: 1000}, false},
		{"add -1", impl.Node{Kind: impl.OpAdd, A: -1}, false},
		{"add with B", impl.Node{Kind: impl.OpAdd, A: 5, B: 1}, false},
		{"add with B -1", impl.Node{Kind: impl.OpAdd, A: 5, B: -1}, false},
		{"keep every key", impl.Node{Kind: impl.OpKeep, A: 1, B: 0}, true},
		{"keep 10, 0", impl.Node{Kind: impl.OpKeep, A: 10, B: 0}, true},
		{"keep 10, 9", impl.Node{Kind: impl.OpKeep, A: 10, B: 9}, true},
		{"keep 3, 2", impl.Node{Kind: impl.OpKeep, A: 3, B: 2}, true},
		{"keep 0", impl.Node{Kind: impl.OpKeep, A: 0, B: 0}, false},
		{"keep -1", impl.Node{Kind: impl.OpKeep, A: -1, B: 0}, false},
		{"keep 11", impl.Node{Kind: impl.OpKeep, A: 11, B: 0}, false},
		{"keep 1, 1", impl.Node{Kind: impl.OpKeep, A: 1, B: 1}, false},
		{"keep 1, -1", impl.Node{Kind: impl.OpKeep, A: 1, B: -1}, false},
		{"keep 3, 3", impl.Node{Kind: impl.OpKeep, A: 3, B: 3}, false},
		{"keep 10, 10", impl.Node{Kind: impl.OpKeep, A: 10, B: 10}, false},
		{"keep 10, -1", impl.Node{Kind: impl.OpKeep, A: 10, B: -1}, false},
		{"keep with the least A", impl.Node{Kind: impl.OpKeep, A: math.MinInt, B: 0}, false},
		{"move 0", impl.Node{Kind: impl.OpMove, A: 0}, true},
		{"move 99", impl.Node{Kind: impl.OpMove, A: 99}, true},
		{"move 100", impl.Node{Kind: impl.OpMove, A: 100}, false},
		{"move -1", impl.Node{Kind: impl.OpMove, A: -1}, false},
		{"move with B", impl.Node{Kind: impl.OpMove, A: 5, B: 1}, false},
		{"a minimum", impl.Node{Kind: impl.OpMin, Outs: []int{7}}, true},
		{"a minimum with A", impl.Node{Kind: impl.OpMin, A: 1}, false},
		{"a minimum with B", impl.Node{Kind: impl.OpMin, B: 1}, false},
		{"no duplicates", impl.Node{Kind: impl.OpNew, Outs: []int{0, 7}}, true},
		{"no duplicates, with A", impl.Node{Kind: impl.OpNew, A: 1}, false},
		{"no duplicates, with B", impl.Node{Kind: impl.OpNew, B: 1}, false},
		{"a feedback edge", impl.Node{Kind: impl.OpBack, Outs: []int{7, 0}}, true},
		{"a feedback edge with A", impl.Node{Kind: impl.OpBack, A: 1}, false},
		{"a feedback edge with B", impl.Node{Kind: impl.OpBack, B: 1}, false},
		{"an output", impl.Node{Kind: impl.OpOut}, true},
		{"an output with an empty list", impl.Node{Kind: impl.OpOut, Outs: []int{}}, true},
		{"an output with A", impl.Node{Kind: impl.OpOut, A: 1}, false},
		{"an output with B", impl.Node{Kind: impl.OpOut, B: 1}, false},
		{"an output with a successor", impl.Node{Kind: impl.OpOut, Outs: []int{1}}, false},
		{"an output with two successors", impl.Node{Kind: impl.OpOut, Outs: []int{1, 2}}, false},
		{"nil", impl.Node{Kind: impl.OpNew, Outs: nil}, true},
		{"an empty list", impl.Node{Kind: impl.OpNew, Outs: []int{}}, true},
		{"successors at both ends", impl.Node{Kind: impl.OpNew, Outs: []int{0, 7}}, true},
		{"equal successors", impl.Node{Kind: impl.OpNew, Outs: []int{4, 4}}, false},
		{"successor -1", impl.Node{Kind: impl.OpNew, Outs: []int{-1}}, false},
		{"successor 8", impl.Node{Kind: impl.OpNew, Outs: []int{8}}, false},
		{"second successor -1", impl.Node{Kind: impl.OpNew, Outs: []int{4, -1}}, false},
		{"second successor 8", impl.Node{Kind: impl.OpNew, Outs: []int{4, 8}}, false},
		{"three successors", impl.Node{Kind: impl.OpNew, Outs: []int{1, 2, 3}}, false},
	}
	for _, c := range cases {
		if got := impl.NodeOk(c.x); got != c.want {
			t.Errorf("%s: NodeOk(%v) = %v, want %v", c.name, c.x, got, c.want)
		}
	}
}

func TestNodeOkOfEveryValidNode(t *testing.T) {
	for _, x := range bareNodes() {
		for _, outs := range validOuts() {
			x.Outs = outs
			if want := x.Kind != impl.OpOut || len(outs) == 0; impl.NodeOk(x) != want {
				t.Fatalf("NodeOk(%v) = %v", x, !want)
			}
		}
	}
}

func TestNodeOkOfWrongNodes(t *testing.T) {
	for _, x := range wrongNodes() {
		if impl.NodeOk(x) {
			t.Errorf("NodeOk(%v) = true", x)
		}
	}
}

func TestNodeOkOfManyNodes(t *testing.T) {
	kinds := append([]int{1, 2, 3, 4, 5, 6, 7, 8}, strangeKinds()...)
	numbers := []int{math.MinInt, math.MinInt + 1, -1000, -100, -10, -2, -1, 0, 1, 2, 5, 8, 9, 10, 11, 98, 99, 100, 998, 999, 1000, 1 << 32, math.MaxInt - 1, math.MaxInt}
	lists := append(validOuts(), wrongOuts()...)
	for _, kind := range kinds {
		for _, a := range numbers {
			for _, b := range numbers {
				for _, outs := range lists {
					x := impl.Node{Kind: kind, A: a, B: b, Outs: outs}
					if want := plainNodeOk(x); impl.NodeOk(x) != want {
						t.Fatalf("NodeOk(%v) = %v, want %v", x, !want, want)
					}
				}
			}
		}
	}
}

func TestRemembers(t *testing.T) {
	stateful := map[int]bool{
		impl.OpIn: false, impl.OpAdd: false, impl.OpKeep: false, impl.OpMove: false,
		impl.OpMin: true, impl.OpNew: true, impl.OpBack: false, impl.OpOut: true,
		0: false, 9: false, -1: false, math.MinInt: false, math.MaxInt: false,
	}
	for kind, want := range stateful {
		if got := impl.Remembers(kind); got != want {
			t.Errorf("Remembers(%d) = %v, want %v", kind, got, want)
		}
	}
	for _, kind := range strangeKinds() {
		if impl.Remembers(kind) {
			t.Errorf("Remembers(%d) = true", kind)
		}
	}
}

func TestKindName(t *testing.T) {
	names := map[int]string{
		impl.OpIn: "in", impl.OpAdd: "add", impl.OpKeep: "keep", impl.OpMove: "move",
		impl.OpMin: "min", impl.OpNew: "new", impl.OpBack: "back", impl.OpOut: "out",
		0: "?", 9: "?", -1: "?", math.MinInt: "?", math.MaxInt: "?",
	}
	for kind, want := range names {
		if got := impl.KindName(kind); got != want {
			t.Errorf("KindName(%d) = %q, want %q", kind, got, want)
		}
	}
	for _, kind := range strangeKinds() {
		if got := impl.KindName(kind); got != "?" {
			t.Errorf("KindName(%d) = %q, want %q", kind, got, "?")
		}
	}
}

// checkChanged checks all three results.
func checkChanged(t *testing.T, x impl.Node, key int, val int, wantKey int, wantVal int, wantPasses bool) {
	t.Helper()
	gotKey, gotVal, passes := impl.Changed(x, key, val)
	if gotKey != wantKey || gotVal != wantVal || passes != wantPasses {
		t.Errorf("Changed(%v, %d, %d) = %d, %d, %v, want %d, %d, %v", x, key, val, gotKey, gotVal, passes, wantKey, wantVal, wantPasses)
	}
}

func TestChanged(t *testing.T) {
	cases := []struct {
		x        impl.Node
		key, val int
		wantKey  int
		wantVal  int
		passes   bool
	}{
		// A sum below MaxVal, at it, one above it and as far above it as it can be.
		{nodeOf(impl.OpAdd, 5, 0), 3, 10, 3, 15, true},
		{nodeOf(impl.OpAdd, 0, 0), 3, 10, 3, 10, true},
		{nodeOf(impl.OpAdd, 0, 0), 3, 999, 3, 999, true},
		{nodeOf(impl.OpAdd, 0, 0), 0, 0, 0, 0, true},
		{nodeOf(impl.OpAdd, 5, 0), 3, 993, 3, 998, true},
		{nodeOf(impl.OpAdd, 5, 0), 3, 994, 3, 999, true},
		{nodeOf(impl.OpAdd, 5, 0), 3, 995, 3, 999, true},
		{nodeOf(impl.OpAdd, 5, 0), 3, 998, 3, 999, true},
		{nodeOf(impl.OpAdd, 1, 0), 99, 998, 99, 999, true},
		{nodeOf(impl.OpAdd, 1, 0), 99, 999, 99, 999, true},
		{nodeOf(impl.OpAdd, 999, 0), 0, 0, 0, 999, true},
		{nodeOf(impl.OpAdd, 999, 0), 0, 1, 0, 999, true},
		{nodeOf(impl.OpAdd, 999, 0), 99, 999, 99, 999, true},
		{nodeOf(impl.OpAdd, 998, 0), 99, 0, 99, 998, true},
		{nodeOf(impl.OpAdd, 5, 0, 1, 2), 3, 10, 3, 15, true},
		// A key below MaxKey, at it, one above it and as far above it as it can be.
		{nodeOf(impl.OpMove, 2, 0), 10, 1, 12, 1, true},
		{nodeOf(impl.OpMove, 0, 0), 10, 1, 10, 1, true},
		{nodeOf(impl.OpMove, 0, 0), 99, 999, 99, 999, true},
		{nodeOf(impl.OpMove, 2, 0), 96, 1, 98, 1, true},
		{nodeOf(impl.OpMove, 2, 0), 97, 1, 99, 1, true},
		{nodeOf(impl.OpMove, 2, 0), 98, 1, 0, 1, true},
		{nodeOf(impl.OpMove, 2, 0), 99, 1, 1, 1, true},
		{nodeOf(impl.OpMove, 99, 0), 0, 1, 99, 1, true},
		{nodeOf(impl.OpMove, 99, 0), 1, 1, 0, 1, true},
		{nodeOf(impl.OpMove, 99, 0), 99, 999, 98, 999, true},
		{nodeOf(impl.OpMove, 50, 0, 7), 50, 500, 0, 500, true},
		// A key that is kept, and one that is not.
		{nodeOf(impl.OpKeep, 3, 1), 4, 1, 4, 1, true},
		{nodeOf(impl.OpKeep, 3, 1), 1, 1, 1, 1, true},
		{nodeOf(impl.OpKeep, 3, 1), 3, 1, 3, 1, false},
		{nodeOf(impl.OpKeep, 3, 1), 5, 1, 5, 1, false},
		{nodeOf(impl.OpKeep, 3, 1), 0, 700, 0, 700, false},
		{nodeOf(impl.OpKeep, 3, 0), 99, 7, 99, 7, true},
		{nodeOf(impl.OpKeep, 3, 2), 99, 7, 99, 7, false},
		{nodeOf(impl.OpKeep, 10, 9), 99, 999, 99, 999, true},
		{nodeOf(impl.OpKeep, 10, 9), 98, 999, 98, 999, false},
		{nodeOf(impl.OpKeep, 10, 0), 0, 0, 0, 0, true},
		{nodeOf(impl.OpKeep, 10, 0), 90, 0, 90, 0, true},
		{nodeOf(impl.OpKeep, 1, 0), 0, 1, 0, 1, true},
		{nodeOf(impl.OpKeep, 1, 0), 57, 1, 57, 1, true},
		{nodeOf(impl.OpKeep, 1, 0), 99, 1, 99, 1, true},
		// It is the key that is kept, not the value.
		{nodeOf(impl.OpKeep, 3, 1), 3, 4, 3, 4, false},
		{nodeOf(impl.OpKeep, 3, 1), 4, 3, 4, 3, true},
		// An output, and every other kind.
		{nodeOf(impl.OpOut, 0, 0), 17, 5, 17, 5, false},
		{nodeOf(impl.OpOut, 0, 0), 0, 0, 0, 0, false},
		{nodeOf(impl.OpOut, 0, 0), 99, 999, 99, 999, false},
		{nodeOf(impl.OpIn, 0, 0, 1, 2), 17, 5, 17, 5, true},
		{nodeOf(impl.OpMin, 0, 0), 17, 5, 17, 5, true},
		{nodeOf(impl.OpNew, 0, 0, 7), 17, 5, 17, 5, true},
		{nodeOf(impl.OpBack, 0, 0, 1), 17, 5, 17, 5, true},
		{nodeOf(impl.OpIn, 0, 0), 0, 999, 0, 999, true},
		{nodeOf(impl.OpMin, 0, 0), 99, 0, 99, 0, true},
	}
	for _, c := range cases {
		checkChanged(t, c.x, c.key, c.val, c.wantKey, c.wantVal, c.passes)
	}
}

func TestChangedOfEveryValidNode(t *testing.T) {
	for _, x := range bareNodes() {
		for key := range 100 {
			for _, val := range []int{0, 1, 2, 499, 500, 998 - x.A, 999 - x.A, 1000 - x.A, 998, 999} {
				wantKey, wantVal, passes := plainChanged(x, key, val)
				checkChanged(t, x, key, val, wantKey, wantVal, passes)
			}
		}
		if t.Failed() {
			return
		}
	}
}

// TestChangedDoesNotDependOnSuccessors checks that the successors of a valid node change none of the results.
func TestChangedDoesNotDependOnSuccessors(t *testing.T) {
	for _, x := range []impl.Node{nodeOf(1, 0, 0), nodeOf(2, 40, 0), nodeOf(3, 4, 2), nodeOf(4, 40, 0), nodeOf(5, 0, 0), nodeOf(6, 0, 0), nodeOf(7, 0, 0)} {
		for _, outs := range validOuts() {
			x.Outs = outs
			for key := range 100 {
				wantKey, wantVal, passes := plainChanged(x, key, 970)
				checkChanged(t, x, key, 970, wantKey, wantVal, passes)
			}
		}
	}
}

// TestOperatorsKeepRangesAndAreMonotone visits the values of a key in ascending order, so that it is enough to compare each with the one before.
func TestOperatorsKeepRangesAndAreMonotone(t *testing.T) {
	for _, x := range bareNodes() {
		// OpAdd has many nodes, and does nothing to the key.
		someKeys := x.Kind == impl.OpAdd && x.A%111 != 0
		for key := range 100 {
			if someKeys && key%33 != 0 {
				continue
			}
			before := 0
			for val := range 1000 {
				newKey, newVal, _ := impl.Changed(x, key, val)
				if newKey < 0 || newKey > impl.MaxKey || newVal < 0 || newVal > impl.MaxVal {
					t.Fatalf("Changed(%v, %d, %d) = %d, %d: outside the ranges for records", x, key, val, newKey, newVal)
				}
				if newVal < before {
					t.Fatalf("Changed(%v, %d, %d) returns the value %d, and %d for a smaller one", x, key, val, newVal, before)
				}
				before = newVal
			}
		}
	}
}

// TestPassingDoesNotDependOnTheValue checks that, of two values of one key, both pass and get the same key, or neither passes.
func TestPassingDoesNotDependOnTheValue(t *testing.T) {
	for _, x := range bareNodes() {
		for key := range 100 {
			firstKey, _, first := impl.Changed(x, key, 0)
			for _, val := range []int{1, 2, 3, 10, 500, 998, 999} {
				if newKey, _, passes := impl.Changed(x, key, val); newKey != firstKey || passes != first {
					t.Fatalf("Changed(%v, %d, %d) = %d, %v, and %d, %v for the value 0", x, key, val, newKey, passes, firstKey, first)
				}
			}
		}
	}
}

// TestKeepSplitsTheKeys checks that every key is kept by exactly one B.
func TestKeepSplitsTheKeys(t *testing.T) {
	for a := 1; a <= 10; a++ {
		for key := range 100 {
			kept := 0
			for b := range a {
				if _, _, passes := impl.Changed(nodeOf(impl.OpKeep, a, b), key, 1); passes {
					kept++
				}
			}
			if kept != 1 {
				t.Errorf("the key %d is kept by %d of the nodes with A %d", key, kept, a)
			}
		}
	}
}

// TestMoveReachesEveryKey checks that no two keys are moved to the same key.
func TestMoveReachesEveryKey(t *testing.T) {
	for a := range 100 {
		reached := map[int]bool{}
		for key := range 100 {
			moved, _, _ := impl.Changed(nodeOf(impl.OpMove, a, 0), key, 1)
			reached[moved] = true
		}
		if len(reached) != 100 {
			t.Errorf("moving by %d reaches %d keys", a, len(reached))
		}
	}
}

func TestChangedReturnsTheArgumentsOfAWrongNode(t *testing.T) {
	for _, x := range wrongNodes() {
		for _, key := range []int{0, 1, 4, 50, 99} {
			for _, val := range []int{0, 1, 500, 999} {
				checkChanged(t, x, key, val, key, val, false)
			}
		}
		checkChanged(t, x, -1, 1000, -1, 1000, false)
		checkChanged(t, x, math.MaxInt, math.MinInt, math.MaxInt, math.MinInt, false)
	}
}

func TestChangedReturnsArgumentsOutsideTheirRanges(t *testing.T) {
	wrongKeys := []int{-1, 100, 101, 199, -100, -99, 1 << 32, 256, math.MinInt, math.MinInt + 1, math.MaxInt - 1, math.MaxInt}
	wrongVals := []int{-1, 1000, 1001, -999, 1 << 32, 1024, math.MinInt, math.MinInt + 1, math.MaxInt - 1, math.MaxInt}
	for _, x := range bareNodes() {
		for _, key := range wrongKeys {
			for _, val := range []int{0, 1, 500, 999} {
				checkChanged(t, x, key, val, key, val, false)
			}
			for _, val := range wrongVals {
				checkChanged(t, x, key, val, key, val, false)
			}
		}
		for _, val := range wrongVals {
			for _, key := range []int{0, 1, 4, 50, 99} {
				checkChanged(t, x, key, val, key, val, false)
			}
		}
	}
}

func TestNodeText(t *testing.T) {
	cases := []struct {
		x    impl.Node
		want string
	}{
		{nodeOf(impl.OpAdd, 5, 0, 1), "add 5 0 1"},
		{nodeOf(impl.OpAdd, 999, 0), "add 999 0"},
		{nodeOf(impl.OpIn, 0, 0, 1, 2), "in 0 0 1 2"},
		{nodeOf(impl.OpKeep, 3, 1, 2), "keep 3 1 2"},
		{nodeOf(impl.OpMove, 99, 0, 7, 0), "move 99 0 7 0"},
		{nodeOf(impl.OpMin, 0, 0), "min 0 0"},
		{impl.Node{Kind: impl.OpNew, Outs: []int{}}, "new 0 0"},
		{impl.Node{Kind: impl.OpNew}, "new 0 0"},
		{nodeOf(impl.OpBack, 0, 0, 1), "back 0 0 1"},
		{nodeOf(impl.OpOut, 0, 0), "out 0 0"},
		// Nodes that are not valid.
		{impl.Node{}, "? 0 0"},
		{nodeOf(9, 1, 2), "? 1 2"},
		{nodeOf(-1, 1, 2, 3), "? 1 2 3"},
		{nodeOf(math.MaxInt, 0, 0), "? 0 0"},
		{nodeOf(math.MinInt, 0, 0), "? 0 0"},
		{nodeOf(impl.OpAdd, -5, -6, -7, -8), "add -5 -6 -7 -8"},
		{nodeOf(impl.OpOut, 0, 0, 5), "out 0 0 5"},
		{nodeOf(impl.OpIn, 0, 0, 4, 4), "in 0 0 4 4"},
		{nodeOf(impl.OpIn, 0, 0, 9, 8, 7, 6), "in 0 0 9 8 7 6"},
		{
			nodeOf(impl.OpMove, math.MinInt, math.MaxInt, math.MaxInt, math.MinInt),
			"move -9223372036854775808 9223372036854775807 9223372036854775807 -9223372036854775808",
		},
		{nodeOf(impl.OpKeep, math.MaxInt, math.MinInt), "keep 9223372036854775807 -9223372036854775808"},
		{nodeOf(impl.OpAdd, 1000, 10, 100), "add 1000 10 100"},
	}
	for _, c := range cases {
		if got := impl.NodeText(c.x); got != c.want {
			t.Errorf("NodeText(%v) = %q, want %q", c.x, got, c.want)
		}
	}
}

func TestNodeTextOfManyNodes(t *testing.T) {
	nodes := append(bareNodes(), wrongNodes()...)
	for kind := 1; kind <= 8; kind++ {
		for _, outs := range validOuts() {
			nodes = append(nodes, impl.Node{Kind: kind, A: 12, B: 345, Outs: outs})
		}
	}
	for _, x := range nodes {
		if got, want := impl.NodeText(x), plainNodeText(x); got != want {
			t.Errorf("NodeText(%v) = %q, want %q", x, got, want)
		}
	}
}

// TestNodeTextHasTheFieldsOfItsNode reads the text again.
func TestNodeTextHasTheFieldsOfItsNode(t *testing.T) {
	for _, x := range bareNodes() {
		x.Outs = []int{6, 2}
		text := impl.NodeText(x)
		fields := strings.Split(text, " ")
		if len(fields) != 5 || fields[0] != impl.KindName(x.Kind) {
			t.Fatalf("NodeText(%v) = %q", x, text)
		}
		for at, want := range []int{x.A, x.B, 6, 2} {
			if n, ok := impl.ReadDecimal(fields[at+1]); n != want || !ok {
				t.Errorf("NodeText(%v) = %q: field %d is not %d", x, text, at+1, want)
			}
		}
	}
}

// outsForMemory returns lists of successors, valid and not.
func outsForMemory() [][]int {
	return [][]int{nil, {}, {0}, {5}, {7, 0}, {0, 7}, {1, 2}, {5, 2}, {2, 5}, {4, 4}, {-1, 3}, {3, 8}, {3, 2, 1}, {7, 6, 5, 4, 3, 2, 1, 0}, {math.MaxInt, math.MinInt}}
}

func TestOperatorsDoNotChangeTheirSuccessors(t *testing.T) {
	for _, outs := range outsForMemory() {
		for _, kind := range []int{0, 1, 2, 3, 4, 5, 6, 7, 8, 9} {
			// The spare capacity holds a number that is valid as a successor, and one that is not.
			for _, spareOp := range []int{5, 77} {
				checkUnchanged(t, "NodeOk", outs, nil, spareOp, func(a []int, _ []int) { impl.NodeOk(nodeOf(kind, leastA(kind), 0, a...)) })
				checkUnchanged(t, "NodeText", outs, nil, spareOp, func(a []int, _ []int) { impl.NodeText(nodeOf(kind, leastA(kind), 0, a...)) })
				checkUnchanged(t, "Changed", outs, nil, spareOp, func(a []int, _ []int) {
					for key := range 100 {
						impl.Changed(nodeOf(kind, leastA(kind), 0, a...), key, 5)
					}
				})
			}
		}
	}
}

func TestOperatorsDoNotDependOnSpareCapacity(t *testing.T) {
	for _, outs := range outsForMemory() {
		for _, kind := range []int{0, 1, 2, 3, 4, 5, 6, 7, 8, 9} {
			for _, spareOp := range []int{5, 77} {
				tight := nodeOf(kind, leastA(kind), 0, slices.Clip(slices.Clone(outs))...)
				roomy := nodeOf(kind, leastA(kind), 0, roomyList(outs, spareOp)...)
				if impl.NodeOk(roomy) != impl.NodeOk(tight) || impl.NodeText(roomy) != impl.NodeText(tight) {
					t.Errorf("NodeOk or NodeText of %v depends on what is behind its successors", tight)
				}
				wantKey, wantVal, passes := impl.Changed(tight, 17, 5)
				checkChanged(t, roomy, 17, 5, wantKey, wantVal, passes)
			}
		}
	}
}

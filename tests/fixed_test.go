package tests

import (
	"fmt"
	"math"
	"math/rand"
	"slices"
	"testing"

	"loop.example/g00973/impl"
)

// plainImprove follows the words of the document one after the other.
func plainImprove(g impl.Graph, best []impl.Cell, x impl.Cell) ([]impl.Cell, []impl.Cell) {
	within := func(n int, most int) bool { return 0 <= n && n <= most }
	if !plainGraphOk(g) || !within(x.Op, len(g.Nodes)-1) || !within(x.Epoch, 3) || !within(x.Key, 99) || !within(x.Val, 999) {
		return best, nil
	}
	after, better := plainRecall(impl.OpMin, best, x)
	if !better {
		return best, nil
	}
	key, val, passes := plainChanged(g.Nodes[x.Op], x.Key, x.Val)
	var next []impl.Cell
	for _, op := range g.Nodes[x.Op].Outs {
		if passes {
			next = append(next, impl.Cell{Op: op, Epoch: x.Epoch, Key: key, Val: val})
		}
	}
	return after, next
}

// plainInputs returns the cells of operator 0 for the valid inputs of the epoch.
func plainInputs(epoch int, inputs []impl.Record) []impl.Cell {
	var cells []impl.Cell
	for _, r := range inputs {
		if plainRecordOk(r) && r.Stamp.Epoch == epoch {
			cells = append(cells, impl.Cell{Op: 0, Epoch: epoch, Key: r.Key, Val: r.Val})
		}
	}
	return cells
}

// plainFixpoint has no work list: it goes over all operators and keys until no value falls any more.
func plainFixpoint(g impl.Graph, epoch int, inputs []impl.Record) []impl.Cell {
	if !plainGraphOk(g) {
		return nil
	}
	least := map[[2]int]int{}
	for _, x := range plainInputs(epoch, inputs) {
		lower(least, 0, x.Key, x.Val)
	}
	for falls := true; falls; {
		falls = false
		for op, x := range g.Nodes {
			for key := range 100 {
				val, found := least[[2]int{op, key}]
				toKey, toVal, passes := impl.Changed(x, key, val)
				for _, to := range x.Outs {
					falls = found && passes && lower(least, to, toKey, toVal) || falls
				}
			}
		}
	}
	var cells []impl.Cell
	for slot, val := range least {
		cells = append(cells, impl.Cell{Op: slot[0], Epoch: epoch, Key: slot[1], Val: val})
	}
	slices.SortFunc(cells, plainCellOrder)
	return cells
}

// lower reports whether the value is less than the least one of the operator and the key, which it then becomes.
func lower(least map[[2]int]int, op int, key int, val int) bool {
	old, found := least[[2]int{op, key}]
	if found && old <= val {
		return false
	}
	least[[2]int{op, key}] = val
	return true
}

func plainOutsOnly(g impl.Graph, cells []impl.Cell) []impl.Cell {
	var list []impl.Cell
	for _, x := range cells {
		for op, node := range g.Nodes {
			if op == x.Op && node.Kind == 8 {
				list = append(list, x)
			}
		}
	}
	return list
}

func plainNoWorse(a []impl.Cell, b []impl.Cell) bool {
	ok := true
	for _, x := range b {
		least, found := plainLeastOf(a, x.Op, x.Epoch, x.Key)
		ok = ok && found && least <= x.Val
	}
	return ok
}

func plainIsClosed(g impl.Graph, cells []impl.Cell) bool {
	ok := plainGraphOk(g)
	for _, x := range cells {
		_, next := plainImprove(g, nil, x)
		ok = ok && plainNoWorse(cells, next)
	}
	return ok
}

func checkImprove(t *testing.T, name string, g impl.Graph, best []impl.Cell, x impl.Cell, want []impl.Cell, wantNext []impl.Cell) {
	t.Helper()
	after, next := impl.Improve(g, best, x)
	if !slices.Equal(after, want) || !slices.Equal(next, wantNext) {
		t.Errorf("%s: Improve(.., %v, %v) = %v, %v, want %v, %v", name, best, x, after, next, want, wantNext)
	}
}

func checkImproveLikePlain(t *testing.T, name string, g impl.Graph, best []impl.Cell, x impl.Cell) {
	t.Helper()
	want, wantNext := plainImprove(g, best, x)
	checkImprove(t, name, g, best, x, want, wantNext)
}

// checkFixed checks Fixpoint, and ResultOf along with it.
func checkFixed(t *testing.T, name string, g impl.Graph, epoch int, inputs []impl.Record, want []impl.Cell) {
	t.Helper()
	if got := impl.Fixpoint(g, epoch, inputs); !slices.Equal(got, want) {
		t.Errorf("%s: Fixpoint(%v, %d, %v) = %v, want %v", name, g, epoch, inputs, got, want)
	}
	if got, outs := impl.ResultOf(g, epoch, inputs), plainOutsOnly(g, want); !slices.Equal(got, outs) {
		t.Errorf("%s: ResultOf(%v, %d, %v) = %v, want %v", name, g, epoch, inputs, got, outs)
	}
}

// followersOf returns the cells of epoch 2 that follow at the given successors.
func followersOf(outs []int, key int, val int) []impl.Cell {
	var list []impl.Cell
	for _, op := range outs {
		list = append(list, impl.Cell{Op: op, Epoch: 2, Key: key, Val: val})
	}
	return list
}

func TestImproveOfEachKind(t *testing.T) {
	cases := []struct {
		x                impl.Node
		key, val         int
		wantKey, wantVal int
		passes           bool
	}{
		{nodeOf(impl.OpIn, 0, 0), 17, 5, 17, 5, true},
		{nodeOf(impl.OpIn, 0, 0), 0, 0, 0, 0, true},
		{nodeOf(impl.OpAdd, 3, 0), 17, 5, 17, 8, true},
		{nodeOf(impl.OpAdd, 0, 0), 17, 5, 17, 5, true},
		{nodeOf(impl.OpAdd, 994, 0), 17, 5, 17, 999, true},
		{nodeOf(impl.OpAdd, 995, 0), 17, 5, 17, 999, true},
		{nodeOf(impl.OpAdd, 999, 0), 99, 999, 99, 999, true},
		{nodeOf(impl.OpKeep, 3, 2), 17, 5, 17, 5, true},
		{nodeOf(impl.OpKeep, 1, 0), 17, 5, 17, 5, true},
		{nodeOf(impl.OpKeep, 10, 7), 17, 5, 17, 5, true},
		{nodeOf(impl.OpKeep, 3, 1), 17, 5, 0, 0, false},
		{nodeOf(impl.OpKeep, 3, 0), 17, 5, 0, 0, false},
		{nodeOf(impl.OpKeep, 10, 0), 17, 5, 0, 0, false},
		{nodeOf(impl.OpMove, 2, 0), 17, 5, 19, 5, true},
		{nodeOf(impl.OpMove, 0, 0), 17, 5, 17, 5, true},
		{nodeOf(impl.OpMove, 82, 0), 17, 5, 99, 5, true},
		{nodeOf(impl.OpMove, 83, 0), 17, 5, 0, 5, true},
		{nodeOf(impl.OpMove, 99, 0), 17, 5, 16, 5, true},
		{nodeOf(impl.OpMin, 0, 0), 17, 5, 17, 5, true},
		{nodeOf(impl.OpNew, 0, 0), 17, 5, 17, 5, true},
		{nodeOf(impl.OpNew, 0, 0), 99, 999, 99, 999, true},
		{nodeOf(impl.OpBack, 0, 0), 17, 5, 17, 5, true},
		{nodeOf(impl.OpBack, 0, 0), 99, 999, 99, 999, true},
		{nodeOf(impl.OpOut, 0, 0), 17, 5, 0, 0, false},
		{nodeOf(impl.OpOut, 0, 0), 0, 0, 0, 0, false},
	}
	for _, c := range cases {
		for _, outs := range outsAround(c.x.Kind) {
			c.x.Outs = outs
			g, at := around(c.x)
			var next []impl.Cell
			if c.passes {
				next = followersOf(outs, c.wantKey, c.wantVal)
			}
			x := cellOf([4]int{at, 2, c.key, c.val})
			for _, best := range [][]impl.Cell{nil, {}, otherCells()} {
				checkImprove(t, impl.NodeText(c.x), g, best, x, plainPutCell(best, x), next)
			}
		}
	}
}

// improveCase is a list of cells with what becomes of it when the cell of operator 3, epoch 2, key 30 and value 5 comes. A nil list stands for no improvement.
type improveCase struct {
	best, after []impl.Cell
}

// check goes over all kinds that node 3 can have: unlike StepOp, Improve keeps the least value at each of them.
func (c improveCase) check(t *testing.T) {
	t.Helper()
	x := kept(5)[0]
	for kind := 2; kind <= 8; kind++ {
		for _, outs := range outsAround(kind) {
			g, at := around(nodeOf(kind, leastA(kind), 0, outs...))
			want, next := c.after, followersOf(outs, 30, 5)
			if want == nil {
				want, next = c.best, nil
			}
			if at != x.Op {
				t.Fatalf("node %d is in place of node %d", at, x.Op)
			}
			checkImprove(t, impl.KindName(kind), g, c.best, x, want, next)
		}
	}
}

func TestImproveWithTheLeastValue(t *testing.T) {
	before, behind := cellOf([4]int{3, 2, 29, 9}), cellOf([4]int{3, 2, 31, 9})
	cases := []improveCase{
		{nil, kept(5)},
		{[]impl.Cell{}, kept(5)},
		// One value: greater, equal, less.
		{kept(6), kept(5)},
		{kept(7), kept(5)},
		{kept(999), kept(5)},
		{kept(5), nil},
		{kept(4), nil},
		{kept(0), nil},
		// Several values, all of which are replaced.
		{kept(6, 7), kept(5)},
		{kept(6, 8, 999), kept(5)},
		{kept(5, 6), nil},
		{kept(4, 6), nil},
		{kept(0, 5, 6), nil},
		// Lists that are in no order.
		{kept(9, 7, 6), kept(5)},
		{kept(9, 4, 6), nil},
		{kept(9, 6, 5), nil},
		{kept(6, 6), kept(5)},
		{kept(5, 5), nil},
		{slices.Concat(kept(9), []impl.Cell{behind}, kept(8), []impl.Cell{before}, kept(6)), []impl.Cell{kept(5)[0], behind, before}},
		{slices.Concat([]impl.Cell{before}, kept(9), []impl.Cell{behind}, kept(6)), []impl.Cell{before, kept(5)[0], behind}},
		{slices.Concat([]impl.Cell{behind}, kept(9), []impl.Cell{before}, kept(4)), nil},
		{[]impl.Cell{behind, before}, []impl.Cell{kept(5)[0], behind, before}},
		{[]impl.Cell{before, before, behind, behind}, []impl.Cell{before, before, kept(5)[0], behind, behind}},
		// Values that no record has.
		{kept(-1), nil},
		{kept(math.MinInt), nil},
		{kept(1000), kept(5)},
		{kept(math.MaxInt), kept(5)},
		{kept(math.MinInt, math.MaxInt), nil},
	}
	for _, c := range cases {
		c.check(t)
	}
}

// A lesser, an equal and a greater value of another operator, epoch or key neither matter nor are they replaced.
func TestImproveWithOtherCells(t *testing.T) {
	x := kept(5)[0]
	for _, val := range []int{-1, 0, 4, 5, 6, 999, 1000} {
		for _, other := range cellsOf([4]int{2, 2, 30, val}, [4]int{3, 1, 30, val}, [4]int{3, 2, 29, val}, [4]int{7, 1, 99, val}, [4]int{-1, 2, 30, val}, [4]int{3, -1, 30, val}, [4]int{3, 2, -1, val}) {
			improveCase{[]impl.Cell{other}, []impl.Cell{other, x}}.check(t)
			improveCase{append(kept(7), other), []impl.Cell{other, x}}.check(t)
			improveCase{[]impl.Cell{other, x}, nil}.check(t)
		}
		for _, other := range cellsOf([4]int{4, 2, 30, val}, [4]int{3, 3, 30, val}, [4]int{3, 2, 31, val}, [4]int{0, 3, 0, val}, [4]int{99, 2, 30, val}, [4]int{3, 99, 30, val}, [4]int{3, 2, 130, val}) {
			improveCase{[]impl.Cell{other}, []impl.Cell{x, other}}.check(t)
			improveCase{append([]impl.Cell{other}, kept(7)...), []impl.Cell{x, other}}.check(t)
			improveCase{[]impl.Cell{x, other}, nil}.check(t)
		}
	}
}

// bestForRefusals returns lists of cells, among them one that x would be an improvement of.
func bestForRefusals(x impl.Cell) [][]impl.Cell {
	greater := x
	greater.Val++
	return append(statesForRefusals(), []impl.Cell{greater}, append(kept(9, 1), greater, greater))
}

func TestImproveRefusesGraphs(t *testing.T) {
	for name, g := range wrongGraphs() {
		for op := range 8 {
			x := cellOf([4]int{op, 2, 30, 1})
			for _, best := range bestForRefusals(x) {
				checkImprove(t, name, g, best, x, best, nil)
			}
		}
	}
}

func TestImproveRefusesOperatorsThatAreNoNode(t *testing.T) {
	for count := 1; count <= 8; count++ {
		g := sizedGraph(count)
		for op := range count {
			x := cellOf([4]int{op, 2, 30, 1})
			checkImprove(t, "a node", g, otherCells(), x, plainPutCell(otherCells(), x), nil)
		}
		for _, op := range append(farNumbers(), count, count+1, count+2, 7, 8, 9, 7+count, -count) {
			if op == 7 && count == 8 {
				continue
			}
			x := cellOf([4]int{op, 2, 30, 1})
			for _, best := range bestForRefusals(x) {
				checkImprove(t, fmt.Sprintf("no node of %d", count), g, best, x, best, nil)
			}
		}
	}
}

// Every field at both ends of its range, and beyond them, at every operator.
func TestImproveAtTheLimits(t *testing.T) {
	for op, outs := range [][]int{{1}, {2, 4}, {3}, {1}, nil} {
		for field, most := range map[int]int{1: impl.MaxEpoch, 2: impl.MaxKey, 3: impl.MaxVal} {
			for _, n := range []int{0, 1, most - 1, most} {
				f := [4]int{op, 2, 30, 7}
				f[field] = n
				x := cellOf(f)
				after, next := impl.Improve(loopGraph(), nil, x)
				if !slices.Equal(after, []impl.Cell{x}) || len(next) != len(outs) {
					t.Errorf("Improve(loopGraph, nil, %v) = %v, %v, want it and one cell for each of %v", x, after, next, outs)
				}
				checkImproveLikePlain(t, "within the limits", loopGraph(), otherCells(), x)
			}
			for _, n := range []int{-1, -2, most + 1, most + 2, math.MinInt, math.MinInt + 1, math.MaxInt, math.MaxInt - 1, 1 << 32, -1 << 32, 1<<32 + 1} {
				f := [4]int{op, 2, 30, 7}
				f[field] = n
				x := cellOf(f)
				for _, best := range bestForRefusals(x) {
					checkImprove(t, "beyond the limits", loopGraph(), best, x, best, nil)
				}
			}
		}
	}
}

// Where Changed does not let the key and the value pass, the cell is put in all the same, and no cells follow.
func TestImproveAtKeepAndOut(t *testing.T) {
	for a := 1; a <= 10; a++ {
		for b := range a {
			for _, outs := range outsAround(impl.OpKeep) {
				g, at := around(nodeOf(impl.OpKeep, a, b, outs...))
				for key := range 30 {
					x := cellOf([4]int{at, 2, key, 5})
					var next []impl.Cell
					if key%a == b {
						next = followersOf(outs, key, 5)
					}
					checkImprove(t, "keep", g, nil, x, []impl.Cell{x}, next)
				}
			}
		}
	}
	g, at := around(nodeOf(impl.OpOut, 0, 0))
	for key := range 100 {
		x, old := cellOf([4]int{at, 2, key, 5}), cellOf([4]int{at, 2, key, 6})
		checkImprove(t, "out", g, []impl.Cell{old}, x, []impl.Cell{x}, nil)
		checkImprove(t, "out", g, []impl.Cell{x}, old, []impl.Cell{x}, nil)
	}
}

// A value that was already propagated is improved: the new one is propagated again.
func TestImproveAgain(t *testing.T) {
	g := graphOf(nodeOf(impl.OpIn, 0, 0, 2, 1), nodeOf(impl.OpAdd, 4, 0, 3), nodeOf(impl.OpMin, 0, 0, 3), nodeOf(impl.OpOut, 0, 0))
	steps := []struct {
		x          [4]int
		best, next []impl.Cell
	}{
		{[4]int{0, 1, 8, 9}, cellsOf([4]int{0, 1, 8, 9}), cellsOf([4]int{2, 1, 8, 9}, [4]int{1, 1, 8, 9})},
		{[4]int{1, 1, 8, 9}, cellsOf([4]int{0, 1, 8, 9}, [4]int{1, 1, 8, 9}), cellsOf([4]int{3, 1, 8, 13})},
		{[4]int{0, 1, 8, 10}, cellsOf([4]int{0, 1, 8, 9}, [4]int{1, 1, 8, 9}), nil},
		{[4]int{0, 1, 8, 9}, cellsOf([4]int{0, 1, 8, 9}, [4]int{1, 1, 8, 9}), nil},
		{[4]int{0, 1, 8, 2}, cellsOf([4]int{0, 1, 8, 2}, [4]int{1, 1, 8, 9}), cellsOf([4]int{2, 1, 8, 2}, [4]int{1, 1, 8, 2})},
		{[4]int{1, 1, 8, 2}, cellsOf([4]int{0, 1, 8, 2}, [4]int{1, 1, 8, 2}), cellsOf([4]int{3, 1, 8, 6})},
		{[4]int{3, 1, 8, 6}, cellsOf([4]int{0, 1, 8, 2}, [4]int{1, 1, 8, 2}, [4]int{3, 1, 8, 6}), nil},
		{[4]int{1, 1, 8, 2}, cellsOf([4]int{0, 1, 8, 2}, [4]int{1, 1, 8, 2}, [4]int{3, 1, 8, 6}), nil},
		{[4]int{1, 1, 8, 0}, cellsOf([4]int{0, 1, 8, 2}, [4]int{1, 1, 8, 0}, [4]int{3, 1, 8, 6}), cellsOf([4]int{3, 1, 8, 4})},
		{[4]int{3, 1, 8, 4}, cellsOf([4]int{0, 1, 8, 2}, [4]int{1, 1, 8, 0}, [4]int{3, 1, 8, 4}), nil},
	}
	var best []impl.Cell
	for at, s := range steps {
		checkImprove(t, fmt.Sprintf("step %d", at), g, best, cellOf(s.x), s.best, s.next)
		best = s.best
	}
}

// anyBest returns cells of which many share the operator, the epoch and the key of x. It is valid in two of three cases.
func anyBest(random *rand.Rand, x impl.Cell) []impl.Cell {
	return anyState(random, impl.Record{Op: x.Op, Stamp: impl.Stamp{Epoch: x.Epoch}, Key: x.Key, Val: x.Val})
}

// anyFixedCell returns a cell that a graph of eight nodes may have; one of eight is not valid.
func anyFixedCell(random *rand.Rand) impl.Cell {
	x := cellOf([4]int{random.Intn(8), random.Intn(4), random.Intn(100), random.Intn(1000)})
	if random.Intn(8) == 0 {
		f := [4]int{x.Op, x.Epoch, x.Key, x.Val}
		f[random.Intn(4)] = []int{-1, 4, 8, 100, 1000, math.MinInt, math.MaxInt}[random.Intn(7)]
		x = cellOf(f)
	}
	return x
}

func TestImproveLikePlain(t *testing.T) {
	random := rand.New(rand.NewSource(111))
	for _, g := range append(validGraphs(), alteredGraphs()...) {
		for range 2 {
			x := anyFixedCell(random)
			checkImproveLikePlain(t, textOf(g), g, anyBest(random, x), x)
		}
	}
}

// What Improve returns is no worse than what it was given, and than the cell.
func TestImproveKeepsAndAdds(t *testing.T) {
	random := rand.New(rand.NewSource(112))
	improved := 0
	for _, g := range validGraphs() {
		x := anyFixedCell(random)
		x.Op %= len(g.Nodes)
		best := anyBest(random, x)
		after, next := impl.Improve(g, best, x)
		if !impl.NoWorse(after, best) || impl.CellsOk(best) && !impl.CellsOk(after) {
			t.Fatalf("Improve(%v, %v, %v) = %v", g, best, x, after)
		}
		if slices.Equal(after, best) {
			if len(next) != 0 {
				t.Fatalf("Improve(%v, %v, %v) improves nothing, and %v follow", g, best, x, next)
			}
			continue
		}
		improved++
		if vals := plainVals(after, x.Op, x.Epoch, x.Key); !slices.Equal(vals, []int{x.Val}) {
			t.Fatalf("Improve(%v, %v, %v) = %v", g, best, x, after)
		}
	}
	if improved < 1000 {
		t.Errorf("%d cells were improvements, want more", improved)
	}
}

// spread returns the inputs of the given epoch with the key 10 and the given values.
func spread(epoch int, vals ...int) []impl.Record {
	var list []impl.Record
	for _, v := range vals {
		list = append(list, recordOf([5]int{0, epoch, 0, 10, v}))
	}
	return list
}

// longWay returns a graph in which the way to node 5 that has fewer edges adds 9, and the other one 3, so that the value that comes first is improved after it was propagated to the nodes 6 and 7.
func longWay() impl.Graph {
	return graphOf(
		nodeOf(impl.OpIn, 0, 0, 1, 2),
		nodeOf(impl.OpAdd, 9, 0, 5),
		nodeOf(impl.OpAdd, 1, 0, 3),
		nodeOf(impl.OpAdd, 1, 0, 4),
		nodeOf(impl.OpAdd, 1, 0, 5),
		nodeOf(impl.OpMin, 0, 0, 6),
		nodeOf(impl.OpMove, 1, 0, 7),
		nodeOf(impl.OpOut, 0, 0),
	)
}

func TestFixpointImprovesWhatWasPropagated(t *testing.T) {
	want := func(epoch int, val int) []impl.Cell {
		return cellsOf(
			[4]int{0, epoch, 10, val}, [4]int{1, epoch, 10, val}, [4]int{2, epoch, 10, val}, [4]int{3, epoch, 10, val + 1},
			[4]int{4, epoch, 10, val + 2}, [4]int{5, epoch, 10, val + 3}, [4]int{6, epoch, 10, val + 3}, [4]int{7, epoch, 11, val + 3},
		)
	}
	for epoch := range 4 {
		for _, vals := range [][]int{{100}, {100, 100}, {100, 101}, {101, 100}, {900, 500, 100}, {100, 500, 900}, {500, 100, 900}, {900, 100, 500}, {109, 108, 107, 106, 105, 104, 103, 102, 101, 100}} {
			checkFixed(t, "a short and a long way", longWay(), epoch, spread(epoch, vals...), want(epoch, 100))
		}
	}
	// With each kind of node in between, a value that falls goes on.
	for kind := 2; kind <= 6; kind++ {
		g := longWay()
		g.Nodes[6] = nodeOf(kind, leastA(kind), 0, 7)
		cells := want(2, 100)
		cells[7].Key = 10
		checkFixed(t, impl.KindName(kind), g, 2, spread(2, 104, 100, 102), cells)
	}
}

func TestFixpointOfOneInput(t *testing.T) {
	in := spread(1, 5)
	cases := []struct {
		name string
		g    impl.Graph
		want []impl.Cell
	}{
		{"an input alone", graphOf(nodeOf(impl.OpIn, 0, 0)), cellsOf([4]int{0, 1, 10, 5})},
		{"an input without a successor", sizedGraph(3), cellsOf([4]int{0, 1, 10, 5})},
		{"an output", graphOf(nodeOf(impl.OpIn, 0, 0, 1), nodeOf(impl.OpOut, 0, 0)), cellsOf([4]int{0, 1, 10, 5}, [4]int{1, 1, 10, 5})},
		{"a filter that lets it pass", graphOf(nodeOf(impl.OpIn, 0, 0, 1), nodeOf(impl.OpKeep, 3, 1, 2), nodeOf(impl.OpOut, 0, 0)), cellsOf([4]int{0, 1, 10, 5}, [4]int{1, 1, 10, 5}, [4]int{2, 1, 10, 5})},
		{"a filter that stops it", graphOf(nodeOf(impl.OpIn, 0, 0, 1), nodeOf(impl.OpKeep, 3, 2, 2), nodeOf(impl.OpOut, 0, 0)), cellsOf([4]int{0, 1, 10, 5}, [4]int{1, 1, 10, 5})},
		{"two outputs", graphOf(nodeOf(impl.OpIn, 0, 0, 2, 1), nodeOf(impl.OpOut, 0, 0), nodeOf(impl.OpOut, 0, 0)), cellsOf([4]int{0, 1, 10, 5}, [4]int{1, 1, 10, 5}, [4]int{2, 1, 10, 5})},
		{"two ways to one output", graphOf(nodeOf(impl.OpIn, 0, 0, 1, 2), nodeOf(impl.OpAdd, 4, 0, 2), nodeOf(impl.OpOut, 0, 0)), cellsOf([4]int{0, 1, 10, 5}, [4]int{1, 1, 10, 5}, [4]int{2, 1, 10, 5})},
		{"a feedback edge outside a loop", looseBack(), cellsOf([4]int{0, 1, 10, 5}, [4]int{1, 1, 10, 5}, [4]int{2, 1, 10, 5}, [4]int{3, 1, 10, 5})},
		{"a loop that adds", loopWith(2, nodeOf(impl.OpAdd, 3, 0, 3)), cellsOf([4]int{0, 1, 10, 5}, [4]int{1, 1, 10, 5}, [4]int{2, 1, 10, 5}, [4]int{3, 1, 10, 8}, [4]int{4, 1, 10, 5})},
		{"a loop that turns the keys", loopWith(2, nodeOf(impl.OpMove, 50, 0, 3)), cellsOf(
			[4]int{0, 1, 10, 5}, [4]int{1, 1, 10, 5}, [4]int{1, 1, 60, 5}, [4]int{2, 1, 10, 5}, [4]int{2, 1, 60, 5},
			[4]int{3, 1, 10, 5}, [4]int{3, 1, 60, 5}, [4]int{4, 1, 10, 5}, [4]int{4, 1, 60, 5})},
	}
	for _, c := range cases {
		checkFixed(t, c.name, c.g, 1, in, c.want)
		if !impl.IsClosed(c.g, c.want) {
			t.Errorf("%s: IsClosed of %v is false", c.name, c.want)
		}
	}
}

// allKeys returns a cell of the operator and epoch 0 for each key, with the value that of returns.
func allKeys(op int, of func(key int) int) []impl.Cell {
	var list []impl.Cell
	for key := range 100 {
		list = append(list, impl.Cell{Op: op, Key: key, Val: of(key)})
	}
	return list
}

// No turn limits a fixed point: one input reaches all keys, which takes 99 rounds.
func TestFixpointGoesBeyondTheTurnLimit(t *testing.T) {
	five := func(key int) int { return 5 }
	want := slices.Concat(cellsOf([4]int{0, 0, 40, 5}), allKeys(1, five), allKeys(2, five), allKeys(3, five), allKeys(4, five))
	checkFixed(t, "a loop", loopGraph(), 0, recordsOf([5]int{0, 0, 0, 40, 5}), want)
	checkFixed(t, "the last turn", loopGraph(), 0, recordsOf([5]int{3, 0, 6, 40, 5}), want)
}

// Each key is reached first by the value of the key before it, then by that of the one before that, and so on: the value at key 99 falls 99 times.
func TestFixpointOfALoopWhoseValuesFallAgainAndAgain(t *testing.T) {
	var in []impl.Record
	for key := range 100 {
		in = append(in, recordOf([5]int{0, 0, 0, key, key}))
	}
	same, none := func(key int) int { return key }, func(key int) int { return 0 }
	want := slices.Concat(allKeys(0, same), allKeys(1, none), allKeys(2, none), allKeys(3, none), allKeys(4, none))
	checkFixed(t, "a loop", loopGraph(), 0, in, want)
	slices.Reverse(in)
	checkFixed(t, "a loop, the other way", loopGraph(), 0, in, want)

	// Every round adds 3: key k then has at most 10 and what the way from key 0 adds.
	g := graphOf(nodeOf(impl.OpIn, 0, 0, 1), nodeOf(impl.OpNew, 0, 0, 2, 4), nodeOf(impl.OpMove, 1, 0, 3), nodeOf(impl.OpAdd, 3, 0, 5), nodeOf(impl.OpOut, 0, 0), nodeOf(impl.OpBack, 0, 0, 1))
	in = recordsOf([5]int{0, 0, 0, 50, 500}, [5]int{0, 0, 0, 0, 10}, [5]int{0, 0, 0, 50, 100})
	at := func(key int) int {
		if key >= 50 {
			return 100 + 3*(key-50)
		}
		return 10 + 3*key
	}
	moved := func(key int) int {
		if key == 0 {
			return at(99)
		}
		return at(key - 1)
	}
	added := func(key int) int { return moved(key) + 3 }
	want = slices.Concat(cellsOf([4]int{0, 0, 0, 10}, [4]int{0, 0, 50, 100}), allKeys(1, at), allKeys(2, at), allKeys(3, moved), allKeys(4, at), allKeys(5, added))
	checkFixed(t, "a loop that adds and moves", g, 0, in, want)
}

// Of two ways round, the one that moves less adds nothing, and is the better one wherever both lead.
func TestFixpointOfTwoWaysRound(t *testing.T) {
	g := graphOf(
		nodeOf(impl.OpIn, 0, 0, 1),
		nodeOf(impl.OpMin, 0, 0, 2, 3),
		nodeOf(impl.OpMove, 1, 0, 4, 7),
		nodeOf(impl.OpMove, 2, 0, 5),
		nodeOf(impl.OpMin, 0, 0, 6),
		nodeOf(impl.OpAdd, 10, 0, 6),
		nodeOf(impl.OpBack, 0, 0, 1),
		nodeOf(impl.OpOut, 0, 0),
	)
	three := func(key int) int { return 3 }
	want := cellsOf([4]int{0, 0, 7, 3})
	for op := 1; op <= 7; op++ {
		want = append(want, allKeys(op, three)...)
	}
	checkFixed(t, "two ways round", g, 0, recordsOf([5]int{0, 0, 0, 7, 3}), want)
}

func TestFixpointOfNoInputs(t *testing.T) {
	for _, g := range append(someOfEach(validGraphs()), loopGraph(), doubleLoop()) {
		for _, epoch := range []int{-1, 0, 1, 2, 3, 4, math.MinInt, math.MaxInt} {
			checkFixed(t, "no inputs", g, epoch, nil, nil)
			checkFixed(t, "no inputs", g, epoch, []impl.Record{}, nil)
		}
	}
}

func TestFixpointOfOtherEpochs(t *testing.T) {
	in := recordsOf([5]int{0, 0, 0, 10, 5}, [5]int{0, 1, 0, 11, 6}, [5]int{0, 2, 0, 12, 7}, [5]int{0, 3, 0, 13, 8})
	g := sizedGraph(2)
	for epoch := range 4 {
		checkFixed(t, "all epochs", g, epoch, in, cellsOf([4]int{0, epoch, 10 + epoch, 5 + epoch}))
		others := slices.Concat(in[:epoch], in[epoch+1:])
		checkFixed(t, "other epochs", g, epoch, others, nil)
		checkFixed(t, "other epochs", loopGraph(), epoch, others, nil)
	}
	for _, epoch := range []int{-1, 4, 5, math.MinInt, math.MinInt + 1, math.MaxInt, math.MaxInt - 1, 1 << 32, 1<<32 + 1, -1 << 32} {
		of := recordOf([5]int{0, epoch, 0, 10, 5})
		for _, list := range [][]impl.Record{in, {of}, append([]impl.Record{of}, in...), append(slices.Clone(in), of, of)} {
			checkFixed(t, "no epoch", g, epoch, list, nil)
			checkFixed(t, "no epoch", loopGraph(), epoch, list, nil)
		}
	}
}

// Inputs that are not valid are left out, wherever they are in the list.
func TestFixpointOfInputsThatAreNotValid(t *testing.T) {
	g := loopWith(2, nodeOf(impl.OpAdd, 3, 0, 3))
	good := recordOf([5]int{0, 1, 0, 10, 500})
	want := cellsOf([4]int{0, 1, 10, 500}, [4]int{1, 1, 10, 500}, [4]int{2, 1, 10, 500}, [4]int{3, 1, 10, 503}, [4]int{4, 1, 10, 500})
	for _, r := range strangeRecords() {
		for _, epoch := range []int{0, 1, 2, 3, r.Stamp.Epoch} {
			checkFixed(t, "one input", g, epoch, []impl.Record{r}, nil)
		}
		checkFixed(t, "the first one", g, 1, []impl.Record{r, good}, want)
		checkFixed(t, "the last one", g, 1, []impl.Record{good, r}, want)
		checkFixed(t, "both ends", g, 1, []impl.Record{r, good, r}, want)
	}
	checkFixed(t, "all of them", g, 1, strangeRecords(), nil)
	checkFixed(t, "all of them and a good one", g, 1, append(strangeRecords(), good), want)
}

// Inputs at both ends of every range are valid.
func TestFixpointOfInputsAtTheLimits(t *testing.T) {
	g := graphOf(nodeOf(impl.OpIn, 0, 0, 1), nodeOf(impl.OpOut, 0, 0))
	for _, op := range []int{0, 7} {
		for _, epoch := range []int{0, 3} {
			for _, turn := range []int{0, 6} {
				for _, key := range []int{0, 99} {
					for _, val := range []int{0, 999} {
						in := recordsOf([5]int{op, epoch, turn, key, val})
						checkFixed(t, "at the limits", g, epoch, in, cellsOf([4]int{0, epoch, key, val}, [4]int{1, epoch, key, val}))
					}
				}
			}
		}
	}
}

// The operator and the turn of an input do not matter, as long as it is valid, and even if the graph has no such operator.
func TestFixpointOfInputsOfOtherOperatorsAndTurns(t *testing.T) {
	few := someOfEach(someOfEach(someOfEach(validGraphs())))
	for _, g := range append(few, loopGraph(), longWay(), graphOf(nodeOf(impl.OpIn, 0, 0))) {
		plain := recordsOf([5]int{0, 2, 0, 10, 5}, [5]int{0, 2, 0, 98, 3}, [5]int{0, 2, 0, 10, 2})
		want := impl.Fixpoint(g, 2, plain)
		for op := range 8 {
			for turn := range 7 {
				in := slices.Clone(plain)
				in[0].Op, in[0].Stamp.Turn = op, turn
				in[2].Op, in[2].Stamp.Turn = 7-op, 6-turn
				checkFixed(t, "other operators and turns", g, 2, in, want)
			}
		}
	}
	out := graphOf(nodeOf(impl.OpIn, 0, 0, 1), nodeOf(impl.OpOut, 0, 0))
	for op := range 8 {
		checkFixed(t, "another operator", out, 2, recordsOf([5]int{op, 2, 0, 10, 5}), cellsOf([4]int{0, 2, 10, 5}, [4]int{1, 2, 10, 5}))
	}
}

// Values of one key in every order: only the least one is left.
func TestFixpointOfSeveralInputsWithOneKey(t *testing.T) {
	in := spread(1, 7, 3, 9, 3, 999)
	for _, g := range []impl.Graph{longWay(), loopWith(2, nodeOf(impl.OpAdd, 3, 0, 3)), doubleLoop(), sizedGraph(2)} {
		want := impl.Fixpoint(g, 1, spread(1, 3))
		eachRecordOrder(in, 0, func(in []impl.Record) {
			checkFixed(t, "one key", g, 1, in, want)
		})
		for _, x := range want {
			if x.Op == 0 && x != cellOf([4]int{0, 1, 10, 3}) {
				t.Errorf("the cell of the input is %v", x)
			}
		}
	}
	g := graphOf(nodeOf(impl.OpIn, 0, 0, 1), nodeOf(impl.OpOut, 0, 0))
	for most := range 40 {
		var rising, falling []impl.Record
		for val := range most + 1 {
			rising = append(rising, spread(1, val+20)...)
			falling = append(falling, spread(1, 20+most-val)...)
		}
		checkFixed(t, "rising", g, 1, rising, cellsOf([4]int{0, 1, 10, 20}, [4]int{1, 1, 10, 20}))
		checkFixed(t, "falling", g, 1, falling, cellsOf([4]int{0, 1, 10, 20}, [4]int{1, 1, 10, 20}))
	}
}

// eachRecordOrder visits every order of the records behind the first ones.
func eachRecordOrder(list []impl.Record, first int, visit func(list []impl.Record)) {
	if first == len(list) {
		visit(list)
		return
	}
	for at := first; at < len(list); at++ {
		other := slices.Clone(list)
		other[first], other[at] = other[at], other[first]
		eachRecordOrder(other, first+1, visit)
	}
}

func TestFixpointOfWrongGraphs(t *testing.T) {
	in := recordsOf([5]int{0, 0, 0, 5, 2}, [5]int{1, 0, 0, 6, 2}, [5]int{0, 0, 3, 5, 1}, [5]int{0, 1, 0, 5, 2}, [5]int{9, 0, 0, 5, 2})
	for name, g := range wrongGraphs() {
		for _, epoch := range []int{-1, 0, 1, 2, 3, 4} {
			checkFixed(t, name, g, epoch, in, nil)
		}
	}
}

// anyInputs returns inputs of several epochs in which some keys come often. A few inputs are not valid, and a few have an operator or a turn.
func anyInputs(random *rand.Rand, most int) []impl.Record {
	var list []impl.Record
	for range random.Intn(most + 1) {
		r := recordOf([5]int{0, random.Intn(4), 0, random.Intn(100), random.Intn(1000)})
		if random.Intn(2) == 0 {
			r.Key = []int{0, 7, 8, 99}[random.Intn(4)]
		}
		switch random.Intn(16) {
		case 0:
			r.Op = random.Intn(9)
		case 1:
			r.Stamp.Turn = random.Intn(8)
		case 2:
			r.Val = []int{-1, 0, 999, 1000}[random.Intn(4)]
		case 3:
			r.Key = []int{-1, 100}[random.Intn(2)]
		case 4:
			r.Stamp.Epoch = []int{-1, 4}[random.Intn(2)]
		}
		list = append(list, r)
	}
	return list
}

// checkPromise checks promise 11 at one call, and that nothing but the document's cells is there.
func checkPromise(t *testing.T, g impl.Graph, epoch int, inputs []impl.Record) []impl.Cell {
	t.Helper()
	cells := impl.Fixpoint(g, epoch, inputs)
	if !impl.IsClosed(g, cells) || !plainIsClosed(g, cells) {
		t.Fatalf("Fixpoint(%v, %d, %v) = %v, which is not closed", g, epoch, inputs, cells)
	}
	if from := plainInputs(epoch, inputs); !impl.NoWorse(cells, from) || !plainNoWorse(cells, from) {
		t.Fatalf("Fixpoint(%v, %d, %v) = %v, which does not include the inputs", g, epoch, inputs, cells)
	}
	if want := plainFixpoint(g, epoch, inputs); !slices.Equal(cells, want) {
		t.Fatalf("Fixpoint(%v, %d, %v) = %v, want %v", g, epoch, inputs, cells, want)
	}
	if !impl.CellsOk(cells) || !slices.Equal(cells, leastCells(cells)) {
		t.Fatalf("Fixpoint(%v, %d, %v) = %v, which is not in order or has a key twice", g, epoch, inputs, cells)
	}
	return cells
}

// fixedGraphs returns valid graphs of every size, many of them with loops.
func fixedGraphs() []impl.Graph {
	random := rand.New(rand.NewSource(113))
	graphs := append(someOfEach(validGraphs()), loopGraph(), doubleLoop(), looseBack(), longWay())
	for range 120 {
		graphs = append(graphs, anyValid(random, 6+random.Intn(3)))
	}
	return graphs
}

// Promise 11.
func TestFixpointIsClosedAndIncludesTheInputs(t *testing.T) {
	random := rand.New(rand.NewSource(11))
	loops, straight, later := 0, 0, 0
	for _, g := range fixedGraphs() {
		inputs := anyInputs(random, 12)
		for epoch := -1; epoch <= 4; epoch++ {
			cells := checkPromise(t, g, epoch, inputs)
			for range 2 {
				random.Shuffle(len(inputs), func(a int, b int) { inputs[a], inputs[b] = inputs[b], inputs[a] })
				checkFixed(t, "another order", g, epoch, inputs, cells)
			}
			if len(cells) > 0 && epoch > 0 {
				later++
			}
		}
		if impl.HasLoop(g) {
			loops++
		} else {
			straight++
		}
	}
	if loops < 200 || straight < 200 || later < 500 {
		t.Errorf("%d graphs with loops, %d without, %d fixed points of later epochs; want more of each", loops, straight, later)
	}
}

func TestFixpointInEveryOrder(t *testing.T) {
	in := recordsOf([5]int{0, 2, 0, 7, 30}, [5]int{0, 2, 0, 8, 20}, [5]int{0, 2, 0, 7, 10}, [5]int{0, 1, 0, 7, 1}, [5]int{0, 2, 0, 99, 0})
	few := someOfEach(someOfEach(someOfEach(validGraphs())))
	for _, g := range append(few, doubleLoop(), longWay(), loopWith(2, nodeOf(impl.OpMove, 10, 0, 3))) {
		want := checkPromise(t, g, 2, in)
		eachRecordOrder(in, 0, func(in []impl.Record) {
			checkFixed(t, "every order", g, 2, in, want)
		})
	}
}

// More inputs improve the fixed point, and inputs that are there twice do not change it.
func TestFixpointOfMoreInputs(t *testing.T) {
	random := rand.New(rand.NewSource(114))
	for _, g := range someOfEach(append(fixedGraphs(), fixedGraphs()...)) {
		inputs, more := anyInputs(random, 8), anyInputs(random, 8)
		for epoch := range 4 {
			few, many := impl.Fixpoint(g, epoch, inputs), impl.Fixpoint(g, epoch, slices.Concat(inputs, more))
			if !impl.NoWorse(many, few) {
				t.Fatalf("Fixpoint(%v, %d, ..) of %v is worse than of %v", g, epoch, slices.Concat(inputs, more), inputs)
			}
			checkFixed(t, "inputs twice", g, epoch, slices.Concat(inputs, inputs), few)
		}
	}
}

// Without a loop no record is lost, and the outputs remember the same cells when all records are processed one by one.
func TestResultOfIsWhatTheOutputsRemember(t *testing.T) {
	random := rand.New(rand.NewSource(115))
	compared := 0
	for _, g := range someOfEach(validGraphs()) {
		if impl.HasLoop(g) {
			continue
		}
		inputs := anyInputs(random, 6)
		for epoch := range 4 {
			var list []impl.Record
			for _, x := range plainInputs(epoch, inputs) {
				list = append(list, recordOf([5]int{0, epoch, 0, x.Key, x.Val}))
			}
			cells, left, _ := impl.StepAll(g, nil, list, 100000)
			outs := plainOutsOnly(g, cells)
			if got := impl.ResultOf(g, epoch, inputs); len(left) > 0 || !slices.Equal(got, outs) {
				t.Fatalf("ResultOf(%v, %d, %v) = %v, want %v", g, epoch, inputs, got, outs)
			}
			compared += min(1, len(outs))
		}
	}
	if compared < 100 {
		t.Errorf("%d results were compared, want more", compared)
	}
}

func TestResultOf(t *testing.T) {
	in := spread(1, 9, 5)
	cases := []struct {
		name string
		g    impl.Graph
		want []impl.Cell
	}{
		{"no output", graphOf(nodeOf(impl.OpIn, 0, 0, 1), nodeOf(impl.OpMin, 0, 0, 2), nodeOf(impl.OpNew, 0, 0)), nil},
		{"an output that is not reached", sizedGraph(2), nil},
		{"one output", graphOf(nodeOf(impl.OpIn, 0, 0, 1), nodeOf(impl.OpAdd, 2, 0, 2), nodeOf(impl.OpOut, 0, 0)), cellsOf([4]int{2, 1, 10, 7})},
		{"two outputs", graphOf(nodeOf(impl.OpIn, 0, 0, 2, 1), nodeOf(impl.OpAdd, 2, 0, 3), nodeOf(impl.OpOut, 0, 0), nodeOf(impl.OpOut, 0, 0)), cellsOf([4]int{2, 1, 10, 5}, [4]int{3, 1, 10, 7})},
		{"several keys", graphOf(nodeOf(impl.OpIn, 0, 0, 2, 1), nodeOf(impl.OpMove, 95, 0, 2), nodeOf(impl.OpOut, 0, 0)), cellsOf([4]int{2, 1, 5, 5}, [4]int{2, 1, 10, 5})},
	}
	for _, c := range cases {
		if got := impl.ResultOf(c.g, 1, in); !slices.Equal(got, c.want) {
			t.Errorf("%s: ResultOf = %v, want %v", c.name, got, c.want)
		}
		for _, epoch := range []int{-1, 0, 2, 3, 4, math.MinInt, math.MaxInt} {
			if got := impl.ResultOf(c.g, epoch, in); len(got) != 0 {
				t.Errorf("%s: ResultOf epoch %d = %v, want no cells", c.name, epoch, got)
			}
		}
	}
}

// mixedCells returns cells of all operators from -1 to 9 and of far ones, in an order of their own, some of them twice.
func mixedCells() []impl.Cell {
	var list []impl.Cell
	for _, op := range append([]int{4, 9, 2, 7, 0, 5, 3, 8, 1, 6, -1, 7, 4}, farNumbers()...) {
		list = append(list, cellOf([4]int{op, 3, 1, 9}), cellOf([4]int{op, 1, 2, 5}), cellOf([4]int{op, -1, 100, 1000}))
	}
	return append(list, list[5:20]...)
}

func TestOutsOnly(t *testing.T) {
	a, b, c := cellOf([4]int{2, 1, 10, 7}), cellOf([4]int{3, 1, 10, 7}), cellOf([4]int{1, 1, 10, 7})
	two := graphOf(nodeOf(impl.OpIn, 0, 0), nodeOf(impl.OpMin, 0, 0), nodeOf(impl.OpOut, 0, 0), nodeOf(impl.OpOut, 0, 0))
	cases := []struct {
		name        string
		g           impl.Graph
		cells, want []impl.Cell
	}{
		{"no cells", two, nil, nil},
		{"no cells", two, []impl.Cell{}, nil},
		{"in order", two, []impl.Cell{c, a, b}, []impl.Cell{a, b}},
		{"in another order", two, []impl.Cell{b, c, a}, []impl.Cell{b, a}},
		{"twice", two, []impl.Cell{b, a, b, c, b}, []impl.Cell{b, a, b, b}},
		{"one output", sizedGraph(3), []impl.Cell{b, a}, []impl.Cell{a}},
		{"no output", graphOf(nodeOf(impl.OpIn, 0, 0), nodeOf(impl.OpMin, 0, 0)), []impl.Cell{c, a, {}}, nil},
		{"no such operators", two, cellsOf([4]int{4, 1, 1, 1}, [4]int{-1, 1, 1, 1}, [4]int{8, 1, 1, 1}, [4]int{1<<32 + 2, 1, 1, 1}), nil},
		{"cells that are not valid", two, cellsOf([4]int{2, -1, 1, 1}, [4]int{2, 4, 1, 1}, [4]int{2, 1, 100, -1}, [4]int{2, 1, math.MinInt, 1000}), cellsOf([4]int{2, -1, 1, 1}, [4]int{2, 4, 1, 1}, [4]int{2, 1, 100, -1}, [4]int{2, 1, math.MinInt, 1000})},
		{"the zero graph", impl.Graph{}, []impl.Cell{a, {}}, nil},
	}
	for _, c := range cases {
		if got := impl.OutsOnly(c.g, c.cells); !slices.Equal(got, c.want) {
			t.Errorf("%s: OutsOnly(.., %v) = %v, want %v", c.name, c.cells, got, c.want)
		}
	}
}

// A graph that is not valid has outputs too: its nodes are taken as they are.
func TestOutsOnlyOfManyGraphs(t *testing.T) {
	graphs := append(validGraphs(), alteredGraphs()[:3000]...)
	for _, g := range wrongGraphs() {
		graphs = append(graphs, g)
	}
	for _, g := range graphs {
		if got, want := impl.OutsOnly(g, mixedCells()), plainOutsOnly(g, mixedCells()); !slices.Equal(got, want) {
			t.Fatalf("OutsOnly(%v, ..) = %v, want %v", g, got, want)
		}
	}
}

func TestNoWorse(t *testing.T) {
	x := kept(5)[0]
	other := cellsOf([4]int{4, 2, 30, 5}, [4]int{3, 1, 30, 5}, [4]int{3, 2, 31, 5})
	cases := []struct {
		a, b []impl.Cell
		want bool
	}{
		{nil, nil, true}, {[]impl.Cell{}, nil, true}, {nil, []impl.Cell{}, true},
		{kept(5), nil, true}, {other, []impl.Cell{}, true},
		{nil, kept(5), false}, {[]impl.Cell{}, kept(0), false},
		// A value that is less, equal and greater.
		{kept(4), kept(5), true}, {kept(0), kept(999), true}, {kept(5), kept(5), true}, {kept(6), kept(5), false}, {kept(999), kept(0), false}, {kept(1), kept(0), false}, {kept(0), kept(0), true},
		// Several values on either side: the least of the left one counts, for all of the right one.
		{kept(6, 4), kept(5), true}, {kept(4, 6), kept(5), true}, {kept(7, 6), kept(5), false}, {kept(9, 5, 7), kept(5), true},
		{kept(5), kept(5, 6, 7), true}, {kept(5), kept(6, 4), false}, {kept(5), kept(4, 6), false}, {kept(5), kept(6, 5, 4, 7), false},
		// A missing key, alone and among others.
		{other, kept(5), false}, {other[:1], other[1:2], false}, {other, append(other[:2:2], x), false}, {append(other, x), other, true}, {other, append(other, x), false}, {append(kept(5), other...), append(kept(5), other...), true},
		{other[1:], other, false}, {other[:2], other, false}, {other, other[1:], true},
		// Numbers that no record has.
		{kept(-1), kept(0), true}, {kept(-1), kept(-2), false}, {kept(math.MinInt), kept(math.MinInt), true}, {kept(math.MinInt), kept(math.MaxInt), true}, {kept(math.MaxInt), kept(math.MinInt), false}, {kept(math.MaxInt), kept(math.MaxInt), true},
		{nil, kept(math.MaxInt), false}, {nil, kept(-1), false},
		{cellsOf([4]int{-1, -1, -1, 5}), cellsOf([4]int{-1, -1, -1, 5}), true}, {cellsOf([4]int{-1, -1, -1, 6}), cellsOf([4]int{-1, -1, -1, 5}), false},
	}
	for _, c := range cases {
		if got := impl.NoWorse(c.a, c.b); got != c.want {
			t.Errorf("NoWorse(%v, %v) = %v, want %v", c.a, c.b, got, c.want)
		}
		// Cells of other keys make no difference.
		if got := impl.NoWorse(append(otherCells(), c.a...), c.b); got != c.want {
			t.Errorf("NoWorse(%v, %v) = %v, want %v", append(otherCells(), c.a...), c.b, got, c.want)
		}
	}
}

func TestNoWorseLikePlain(t *testing.T) {
	lists := append(shortCellLists(), longCellLists()[:100]...)
	for at, a := range lists {
		for step := range 12 {
			b := lists[(at*7+step*31)%len(lists)]
			if got, want := impl.NoWorse(a, b), plainNoWorse(a, b); got != want {
				t.Fatalf("NoWorse(%v, %v) = %v, want %v", a, b, got, want)
			}
		}
		if !impl.NoWorse(a, a) {
			t.Fatalf("NoWorse of %v and itself is false", a)
		}
	}
}

func TestIsClosedOfNoCells(t *testing.T) {
	for _, g := range validGraphs() {
		if !impl.IsClosed(g, nil) || !impl.IsClosed(g, []impl.Cell{}) {
			t.Fatalf("IsClosed(%v, no cells) = false", g)
		}
	}
	for name, g := range wrongGraphs() {
		if impl.IsClosed(g, nil) || impl.IsClosed(g, []impl.Cell{}) {
			t.Errorf("%s: IsClosed of no cells = true", name)
		}
	}
}

// Cells of all keys and operators with the value 0 are closed in every valid graph, and in no other.
func TestIsClosedOfAllCells(t *testing.T) {
	var all []impl.Cell
	for op := range 8 {
		all = append(all, allKeys(op, func(key int) int { return 0 })...)
	}
	for _, g := range someOfEach(validGraphs()) {
		if !impl.IsClosed(g, all) {
			t.Fatalf("IsClosed(%v, ..) of all cells = false", g)
		}
	}
	for name, g := range wrongGraphs() {
		for _, cells := range append(statesForRefusals(), all, impl.Fixpoint(loopGraph(), 0, spread(0, 5))) {
			if impl.IsClosed(g, cells) {
				t.Errorf("%s: IsClosed = true", name)
			}
		}
	}
}

func TestIsClosed(t *testing.T) {
	// 0, 1 (adds 4), 3 and 0, 2, 3.
	g := graphOf(nodeOf(impl.OpIn, 0, 0, 2, 1), nodeOf(impl.OpAdd, 4, 0, 3), nodeOf(impl.OpKeep, 2, 0, 3), nodeOf(impl.OpOut, 0, 0))
	cases := []struct {
		name  string
		cells [][4]int
		want  bool
	}{
		{"an input alone", [][4]int{{0, 1, 8, 5}}, false},
		{"one successor", [][4]int{{0, 1, 8, 5}, {1, 1, 8, 5}, {3, 1, 8, 9}}, false},
		{"the other one", [][4]int{{0, 1, 8, 5}, {2, 1, 8, 5}, {3, 1, 8, 5}}, false},
		{"both", [][4]int{{0, 1, 8, 5}, {1, 1, 8, 5}, {2, 1, 8, 5}, {3, 1, 8, 5}}, true},
		{"in another order", [][4]int{{3, 1, 8, 5}, {1, 1, 8, 5}, {0, 1, 8, 5}, {2, 1, 8, 5}}, true},
		{"an output that is too great", [][4]int{{0, 1, 8, 5}, {1, 1, 8, 5}, {2, 1, 8, 5}, {3, 1, 8, 6}}, false},
		{"an output that is less", [][4]int{{0, 1, 8, 5}, {1, 1, 8, 5}, {2, 1, 8, 5}, {3, 1, 8, 4}}, true},
		{"a filter that stops the key", [][4]int{{0, 1, 7, 5}, {1, 1, 7, 5}, {2, 1, 7, 5}, {3, 1, 7, 9}}, true},
		{"the successor of another epoch", [][4]int{{1, 1, 8, 5}, {3, 2, 8, 9}}, false},
		{"the successor of another key", [][4]int{{1, 1, 8, 5}, {3, 1, 9, 9}}, false},
		{"no input", [][4]int{{1, 1, 8, 5}, {3, 1, 8, 9}}, true},
		{"an output alone", [][4]int{{3, 1, 8, 9}}, true},
		{"two epochs, one of them closed", [][4]int{{1, 1, 8, 5}, {3, 1, 8, 9}, {1, 2, 8, 5}}, false},
		{"two epochs", [][4]int{{1, 1, 8, 5}, {3, 1, 8, 9}, {1, 2, 8, 5}, {3, 2, 8, 9}}, true},
		// A key that is there with several values: each of them is looked at.
		{"two values, of which the lesser one goes on", [][4]int{{1, 1, 8, 5}, {1, 1, 8, 2}, {3, 1, 8, 6}}, true},
		{"two values, of which the greater one goes on", [][4]int{{1, 1, 8, 5}, {1, 1, 8, 2}, {3, 1, 8, 9}}, false},
		{"two values, the other way", [][4]int{{1, 1, 8, 2}, {1, 1, 8, 5}, {3, 1, 8, 9}}, false},
		{"two values of the output", [][4]int{{1, 1, 8, 5}, {3, 1, 8, 10}, {3, 1, 8, 9}}, true},
		// Nothing follows from a cell that is not valid.
		{"an operator that is no node", [][4]int{{4, 1, 8, 5}, {-1, 1, 8, 5}, {8, 1, 8, 5}, {math.MaxInt, 1, 8, 5}, {math.MinInt, 1, 8, 5}}, true},
		{"an epoch that is none", [][4]int{{0, -1, 8, 5}, {0, 4, 8, 5}, {0, math.MaxInt, 8, 5}}, true},
		{"a key that is none", [][4]int{{0, 1, -1, 5}, {0, 1, 100, 5}, {0, 1, math.MinInt, 5}}, true},
		{"a value that is none", [][4]int{{0, 1, 8, -1}, {0, 1, 8, 1000}, {0, 1, 8, math.MinInt}}, true},
		{"a cell behind those that are not valid", [][4]int{{0, 1, 8, -1}, {4, 1, 8, 5}, {1, 1, 8, 5}}, false},
		// But it may be what another cell needs.
		{"a negative output", [][4]int{{1, 1, 8, 5}, {3, 1, 8, -1}}, true},
		{"an output that is far too great", [][4]int{{1, 1, 8, 5}, {3, 1, 8, 1000}}, false},
	}
	for _, c := range cases {
		cells := cellsOf(c.cells...)
		if got := impl.IsClosed(g, cells); got != c.want || plainIsClosed(g, cells) != c.want {
			t.Errorf("%s: IsClosed(.., %v) = %v, want %v", c.name, cells, got, c.want)
		}
	}
}

// A fixed point is the least one: without one of its cells, or with a greater value in it, it is not closed any more or does not include the inputs.
func TestIsClosedOfAFixedPointWithoutACell(t *testing.T) {
	random := rand.New(rand.NewSource(116))
	for _, g := range someOfEach(append(validGraphs(), loopGraph(), doubleLoop())) {
		inputs := anyInputs(random, 3)
		epoch := random.Intn(4)
		cells := checkPromise(t, g, epoch, inputs)
		for at, x := range cells {
			if len(cells) > 60 && random.Intn(len(cells)) >= 60 {
				continue
			}
			without, raised := slices.Delete(slices.Clone(cells), at, at+1), slices.Clone(cells)
			raised[at].Val++
			for _, list := range [][]impl.Cell{without, raised} {
				includes := impl.NoWorse(list, plainInputs(epoch, inputs))
				if includes != (x.Op != 0) || x.Op != 0 && impl.IsClosed(g, list) {
					t.Fatalf("%v is closed and includes the inputs %v of %v, but %v is missing", list, inputs, g, x)
				}
			}
		}
	}
}

func TestIsClosedLikePlain(t *testing.T) {
	random := rand.New(rand.NewSource(117))
	seen := map[bool]int{}
	for _, g := range append(someOfEach(validGraphs()), alteredGraphs()[:1500]...) {
		cells := impl.Fixpoint(g, 1, anyInputs(random, 3))
		cells = cells[:min(len(cells), 40)]
		for range random.Intn(3) {
			cells = append(cells, anyFixedCell(random))
		}
		random.Shuffle(len(cells), func(a int, b int) { cells[a], cells[b] = cells[b], cells[a] })
		got, want := impl.IsClosed(g, cells), plainIsClosed(g, cells)
		if got != want {
			t.Fatalf("IsClosed(%v, %v) = %v, want %v", g, cells, got, want)
		}
		seen[got]++
	}
	if seen[true] < 100 || seen[false] < 100 {
		t.Errorf("%d lists are closed, and %d are not; want more", seen[true], seen[false])
	}
}

// fixedCase is a call of each function of the chapter.
type fixedCase struct {
	g      impl.Graph
	best   []impl.Cell
	x      impl.Cell
	inputs []impl.Record
}

// fixedForMemory are calls at which something changes and at which nothing does, and at which cells follow and do not.
func fixedForMemory() []fixedCase {
	inputs := recordsOf([5]int{0, 2, 0, 30, 7}, [5]int{3, 2, 1, 30, 5}, [5]int{0, 1, 0, 30, 5}, [5]int{0, 2, 0, 30, -1}, [5]int{0, 2, 0, 31, 5})
	var cases []fixedCase
	for kind := 1; kind <= 8; kind++ {
		for _, outs := range [][]int{outsAround(kind)[0], outsAround(kind)[len(outsAround(kind))-1]} {
			g, at := around(nodeOf(kind, leastA(kind), 0, outs...))
			for _, best := range [][]impl.Cell{nil, {}, kept(5), kept(4), kept(6), kept(6, 7, 8), kept(9, 5, 1), kept(9, 6), otherCells(), append(otherCells(), kept(9)...)} {
				cases = append(cases, fixedCase{g, best, cellOf([4]int{at, 2, 30, 5}), inputs})
			}
		}
	}
	keeps, at := around(nodeOf(impl.OpKeep, 7, 1, 4, 7))
	return append(cases,
		fixedCase{keeps, kept(6), cellOf([4]int{at, 2, 30, 5}), nil},
		fixedCase{loopGraph(), kept(6), cellOf([4]int{5, 2, 30, 5}), []impl.Record{}},
		fixedCase{loopGraph(), kept(6), cellOf([4]int{3, 2, 30, 1000}), inputs},
		fixedCase{loopGraph(), kept(6), cellOf([4]int{-1, 2, 30, 5}), inputs[:1]},
		fixedCase{loopGraph(), kept(6), cellOf([4]int{3, 4, 30, 5}), inputs[1:2]},
		fixedCase{loopWith(1, impl.Node{}), kept(6), kept(5)[0], inputs},
		fixedCase{impl.Graph{}, kept(6, 7), impl.Cell{}, inputs},
	)
}

func TestFixedPointsDoNotChangeTheirLists(t *testing.T) {
	for _, c := range fixedForMemory() {
		for _, spare := range spareStepCells() {
			checkUnchanged(t, "Improve", c.best, nil, spare, func(a []impl.Cell, b []impl.Cell) { impl.Improve(c.g, a, c.x) })
			checkUnchanged(t, "IsClosed", c.best, nil, spare, func(a []impl.Cell, b []impl.Cell) { impl.IsClosed(c.g, a) })
			checkUnchanged(t, "OutsOnly", c.best, nil, spare, func(a []impl.Cell, b []impl.Cell) { impl.OutsOnly(c.g, a) })
			checkUnchanged(t, "NoWorse", c.best, kept(6, 5), spare, func(a []impl.Cell, b []impl.Cell) { impl.NoWorse(a, b) })
			checkUnchanged(t, "NoWorse", kept(6, 5), c.best, spare, func(a []impl.Cell, b []impl.Cell) { impl.NoWorse(a, b) })
		}
		for _, spare := range append(spareRecords(), recordOf([5]int{0, 2, 0, 30, 0})) {
			checkUnchanged(t, "Fixpoint", c.inputs, nil, spare, func(a []impl.Record, b []impl.Record) { impl.Fixpoint(c.g, 2, a) })
			checkUnchanged(t, "ResultOf", c.inputs, nil, spare, func(a []impl.Record, b []impl.Record) { impl.ResultOf(c.g, 2, a) })
		}
	}
}

func TestFixedPointsDoNotChangeTheirGraphs(t *testing.T) {
	for _, c := range fixedForMemory() {
		for _, spare := range spareNodes() {
			for _, spareOp := range []int{1, 77} {
				g := roomyGraph(c.g, spare, spareOp)
				want := memoryOf(g)
				impl.Improve(g, c.best, c.x)
				impl.Fixpoint(g, 2, c.inputs)
				impl.ResultOf(g, 2, c.inputs)
				impl.IsClosed(g, c.best)
				impl.OutsOnly(g, c.best)
				if memoryOf(g) != want {
					t.Fatalf("the memory of %v was changed", c.g)
				}
			}
		}
	}
}

func TestFixedPointsShareNoMemoryWithTheirLists(t *testing.T) {
	mark := cellOf([4]int{88, 88, 88, 88})
	for _, c := range fixedForMemory() {
		for _, spare := range spareStepCells() {
			checkNewMemory(t, "the cells of Improve", c.best, nil, spare, mark, func(a []impl.Cell, b []impl.Cell) []impl.Cell {
				after, _ := impl.Improve(c.g, a, c.x)
				return after
			})
			checkNewMemory(t, "what follows in Improve", c.best, nil, spare, mark, func(a []impl.Cell, b []impl.Cell) []impl.Cell {
				_, next := impl.Improve(c.g, a, c.x)
				return next
			})
			checkNewMemory(t, "OutsOnly", append(c.best[:len(c.best):len(c.best)], cellOf([4]int{4, 2, 1, 1}), cellOf([4]int{7, 2, 1, 1})), nil, spare, mark, func(a []impl.Cell, b []impl.Cell) []impl.Cell {
				return impl.OutsOnly(c.g, a)
			})
		}
	}
}

// OutsOnly is a new list also where every cell stays.
func TestOutsOnlyOfOutputsIsNewMemory(t *testing.T) {
	mark := cellOf([4]int{88, 88, 88, 88})
	for length := range 5 {
		cells := allKeys(1, func(key int) int { return key })[:length]
		checkNewMemory(t, "OutsOnly", cells, nil, cellOf([4]int{1, 0, 5, 5}), mark, func(a []impl.Cell, b []impl.Cell) []impl.Cell {
			return impl.OutsOnly(sizedGraph(2), a)
		})
	}
}

// The two lists that Improve returns do not meet, not even in the capacity behind them. Some of the lists are long, because the capacity of a long list is more than it needs.
func TestImproveReturnsTwoLists(t *testing.T) {
	mark := cellOf([4]int{88, 88, 88, 88})
	cases := fixedForMemory()
	for length := range 100 {
		cases = append(cases, fixedCase{g: loopGraph(), best: allKeys(4, func(key int) int { return 7 })[:length], x: cellOf([4]int{1, 0, 30, 5})})
	}
	for _, c := range cases {
		want, wantNext := plainImprove(c.g, c.best, c.x)
		after, next := impl.Improve(c.g, roomyList(c.best, kept(0)[0]), c.x)
		overwrite(after, mark)
		if !slices.Equal(next, wantNext) {
			t.Fatalf("Improve(%v, %v, %v): what follows is %v after the cells were changed, want %v", c.g, c.best, c.x, next, wantNext)
		}
		after, next = impl.Improve(c.g, roomyList(c.best, kept(0)[0]), c.x)
		overwrite(next, mark)
		if !slices.Equal(after, want) {
			t.Fatalf("Improve(%v, %v, %v): the cells are %v after what follows was changed, want %v", c.g, c.best, c.x, after, want)
		}
	}
}

// The results are new in every call, and do not depend on what is behind the lists of the graph and the inputs.
func TestFixedPointsAreNewMemory(t *testing.T) {
	mark := cellOf([4]int{88, 88, 88, 88})
	for _, c := range fixedForMemory() {
		want, result := plainFixpoint(c.g, 2, c.inputs), plainOutsOnly(c.g, plainFixpoint(c.g, 2, c.inputs))
		_, wantNext := plainImprove(c.g, c.best, c.x)
		for _, spare := range spareNodes() {
			g := roomyGraph(c.g, spare, 1)
			inputs := roomyList(c.inputs, recordOf([5]int{0, 2, 0, 30, 0}))
			cells, outs := impl.Fixpoint(g, 2, inputs), impl.ResultOf(g, 2, inputs)
			_, next := impl.Improve(g, c.best, c.x)
			overwrite(impl.Fixpoint(g, 2, inputs), mark)
			overwrite(impl.ResultOf(g, 2, inputs), mark)
			overwrite(inputs, recordOf([5]int{88, 88, 88, 88, 88}))
			for at := range g.Nodes {
				overwrite(g.Nodes[at].Outs, 66)
			}
			overwrite(g.Nodes, impl.Node{Kind: 66})
			if !slices.Equal(cells, want) || !slices.Equal(outs, result) || !slices.Equal(next, wantNext) {
				t.Fatalf("the fixed point of %v is %v, %v, %v, want %v, %v, %v", c.g, cells, outs, next, want, result, wantNext)
			}
		}
	}
}

// IsClosed and NoWorse do not read the capacity behind a list: neither a cell that is missing in it nor one that is too many.
func TestFixedPointsDoNotReadSpareCapacity(t *testing.T) {
	g := graphOf(nodeOf(impl.OpIn, 0, 0, 1), nodeOf(impl.OpOut, 0, 0))
	in, out := cellOf([4]int{0, 2, 30, 5}), cellOf([4]int{1, 2, 30, 5})
	if impl.IsClosed(g, roomyList([]impl.Cell{in}, out)) {
		t.Error("IsClosed finds a cell behind the list")
	}
	if !impl.IsClosed(g, roomyList([]impl.Cell{out}, in)) || !impl.IsClosed(g, roomyList(nil, in)) {
		t.Error("IsClosed looks at a cell behind the list")
	}
	if impl.NoWorse(roomyList([]impl.Cell{in}, out), []impl.Cell{in, out}) {
		t.Error("NoWorse finds a cell behind the first list")
	}
	if !impl.NoWorse([]impl.Cell{in}, roomyList([]impl.Cell{in}, out)) {
		t.Error("NoWorse looks at a cell behind the second list")
	}
}

// No call leaves anything behind: calls with other cells, graphs and inputs come between two equal ones.
func TestFixedPointsStayTheSame(t *testing.T) {
	in := recordsOf([5]int{0, 0, 0, 5, 2}, [5]int{0, 1, 0, 4, 3})
	results := func() string {
		after, next := impl.Improve(loopGraph(), kept(6), kept(5)[0])
		cells := impl.Fixpoint(doubleLoop(), 1, in)
		return fmt.Sprint(after, next, cells, impl.ResultOf(loopGraph(), 0, in), impl.IsClosed(doubleLoop(), cells), impl.NoWorse(cells, after), impl.OutsOnly(doubleLoop(), mixedCells()))
	}
	first := results()
	impl.Improve(loopGraph(), nil, kept(1)[0])
	impl.Improve(impl.Graph{}, kept(1), kept(0)[0])
	impl.Fixpoint(doubleLoop(), 1, spread(1, 0, 0))
	impl.Fixpoint(impl.Graph{}, 1, in)
	impl.ResultOf(doubleLoop(), 0, in)
	impl.IsClosed(loopGraph(), kept(1))
	impl.OutsOnly(loopGraph(), kept(1))
	if again := results(); again != first {
		t.Errorf("the results changed from %s to %s", first, again)
	}
}

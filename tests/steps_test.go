package tests

import (
	"fmt"
	"math"
	"math/rand"
	"slices"
	"testing"

	"loop.example/g00973/impl"
)

// plainRecordOk goes by the numbers that the document gives.
func plainRecordOk(r impl.Record) bool {
	within := func(n int, most int) bool { return 0 <= n && n <= most }
	return within(r.Op, 7) && validStamp(r.Stamp) && within(r.Key, 99) && within(r.Val, 999)
}

// plainStep follows the words of the document one after the other.
func plainStep(g impl.Graph, cells []impl.Cell, r impl.Record) ([]impl.Cell, []impl.Record, bool) {
	if !plainGraphOk(g) || !plainRecordOk(r) || r.Op >= len(g.Nodes) {
		return cells, nil, false
	}
	x := g.Nodes[r.Op]
	key, val, passes := plainChanged(x, r.Key, r.Val)
	if !passes && x.Kind != 8 {
		return cells, nil, true
	}
	if x.Kind == 5 || x.Kind == 6 || x.Kind == 8 {
		cells, passes = plainRecall(x.Kind, cells, impl.Cell{Op: r.Op, Epoch: r.Stamp.Epoch, Key: r.Key, Val: r.Val})
		if !passes {
			return cells, nil, true
		}
	}
	turn := r.Stamp.Turn
	if x.Kind == 7 {
		turn++
	}
	var emitted []impl.Record
	for _, op := range x.Outs {
		if turn <= 6 {
			emitted = append(emitted, recordOf([5]int{op, r.Stamp.Epoch, turn, key, val}))
		}
	}
	return cells, emitted, true
}

func plainCapped(g impl.Graph, r impl.Record) bool {
	if !plainGraphOk(g) || !plainRecordOk(r) || r.Op >= len(g.Nodes) {
		return false
	}
	x := g.Nodes[r.Op]
	return x.Kind == 7 && len(x.Outs) > 0 && r.Stamp.Turn == 6
}

func plainStepAll(g impl.Graph, cells []impl.Cell, list []impl.Record, most int) ([]impl.Cell, []impl.Record, int) {
	steps := 0
	for len(list) > 0 && steps < most && steps < 100000 {
		var emitted []impl.Record
		cells, emitted, _ = plainStep(g, cells, list[0])
		list = slices.Concat(list[1:], emitted)
		steps++
	}
	return cells, list, steps
}

func checkStep(t *testing.T, g impl.Graph, cells []impl.Cell, r impl.Record, wantCells []impl.Cell, wantEmitted []impl.Record, wantOk bool) {
	t.Helper()
	after, emitted, ok := impl.StepOp(g, cells, r)
	if !slices.Equal(after, wantCells) || !slices.Equal(emitted, wantEmitted) || ok != wantOk {
		t.Errorf("StepOp(%v, %v, %v) = %v, %v, %v, want %v, %v, %v", g, cells, r, after, emitted, ok, wantCells, wantEmitted, wantOk)
	}
}

func checkStepLikePlain(t *testing.T, g impl.Graph, cells []impl.Cell, r impl.Record) {
	t.Helper()
	wantCells, wantEmitted, wantOk := plainStep(g, cells, r)
	checkStep(t, g, cells, r, wantCells, wantEmitted, wantOk)
}

// checkAll checks a call of StepAll. It writes only the lengths of the records, because some lists are long.
func checkAll(t *testing.T, name string, g impl.Graph, cells []impl.Cell, list []impl.Record, most int, wantCells []impl.Cell, wantLeft []impl.Record, wantSteps int) {
	t.Helper()
	after, left, steps := impl.StepAll(g, cells, list, most)
	if !slices.Equal(after, wantCells) || steps != wantSteps {
		t.Errorf("%s: StepAll of %d records, %d steps at most, = %v after %d steps, want %v after %d", name, len(list), most, after, steps, wantCells, wantSteps)
	}
	if !slices.Equal(left, wantLeft) {
		t.Errorf("%s: StepAll of %d records, %d steps at most, leaves %d records %v.., want %d %v..", name, len(list), most, len(left), left[:min(len(left), 5)], len(wantLeft), wantLeft[:min(len(wantLeft), 5)])
	}
}

func checkAllLikePlain(t *testing.T, name string, g impl.Graph, cells []impl.Cell, list []impl.Record, most int) {
	t.Helper()
	wantCells, wantLeft, wantSteps := plainStepAll(g, cells, list, most)
	checkAll(t, name, g, cells, list, most, wantCells, wantLeft, wantSteps)
}

// around returns a valid graph of eight nodes in which the given one is node 3, or node 0 if it is an input. A feedback edge may lead to 1 and 2, and the others to 4 to 7.
func around(x impl.Node) (impl.Graph, int) {
	g := graphOf(
		nodeOf(impl.OpIn, 0, 0, 1),
		nodeOf(impl.OpMin, 0, 0, 3),
		nodeOf(impl.OpNew, 0, 0, 3),
		nodeOf(impl.OpAdd, 1, 0),
		nodeOf(impl.OpOut, 0, 0),
		nodeOf(impl.OpAdd, 1, 0, 7),
		nodeOf(impl.OpMin, 0, 0, 7),
		nodeOf(impl.OpOut, 0, 0),
	)
	at := 3
	if x.Kind == impl.OpIn {
		at = 0
	}
	g.Nodes[at] = x
	return g, at
}

// outsAround returns the successors that a node of the kind may have in the graph of around: none, one and two, in both orders.
func outsAround(kind int) [][]int {
	switch kind {
	case impl.OpOut:
		return [][]int{nil, {}}
	case impl.OpBack:
		return [][]int{nil, {}, {1}, {2}, {1, 2}, {2, 1}}
	}
	return [][]int{nil, {}, {4}, {5}, {6}, {7}, {4, 7}, {7, 4}, {5, 6}, {6, 5}}
}

// otherCells returns cells of other operators, epochs and keys than those of a record of operator 3 or 0, epoch 2 and key 17.
func otherCells() []impl.Cell {
	return cellsOf([4]int{3, 1, 17, 1}, [4]int{1, 2, 17, 1}, [4]int{3, 2, 16, 1}, [4]int{3, 2, 18, 1}, [4]int{6, 2, 17, 1}, [4]int{3, 3, 17, 1})
}

func TestStepOpOfEachKind(t *testing.T) {
	cases := []struct {
		x                impl.Node
		key, val         int
		wantKey, wantVal int
		turn             int // that of the emitted records; -1 if none is emitted
		remembers        bool
	}{
		{nodeOf(impl.OpIn, 0, 0), 17, 5, 17, 5, 3, false},
		{nodeOf(impl.OpIn, 0, 0), 0, 0, 0, 0, 3, false},
		{nodeOf(impl.OpAdd, 3, 0), 17, 5, 17, 8, 3, false},
		{nodeOf(impl.OpAdd, 0, 0), 17, 5, 17, 5, 3, false},
		{nodeOf(impl.OpAdd, 994, 0), 17, 5, 17, 999, 3, false},
		{nodeOf(impl.OpAdd, 995, 0), 17, 5, 17, 999, 3, false},
		{nodeOf(impl.OpAdd, 999, 0), 17, 999, 17, 999, 3, false},
		{nodeOf(impl.OpKeep, 3, 2), 17, 5, 17, 5, 3, false},
		{nodeOf(impl.OpKeep, 3, 1), 17, 5, 0, 0, -1, false},
		{nodeOf(impl.OpKeep, 3, 0), 17, 5, 0, 0, -1, false},
		{nodeOf(impl.OpKeep, 1, 0), 17, 5, 17, 5, 3, false},
		{nodeOf(impl.OpMove, 2, 0), 17, 5, 19, 5, 3, false},
		{nodeOf(impl.OpMove, 0, 0), 17, 5, 17, 5, 3, false},
		{nodeOf(impl.OpMove, 82, 0), 17, 5, 99, 5, 3, false},
		{nodeOf(impl.OpMove, 83, 0), 17, 5, 0, 5, 3, false},
		{nodeOf(impl.OpMove, 99, 0), 17, 5, 16, 5, 3, false},
		{nodeOf(impl.OpMin, 0, 0), 17, 5, 17, 5, 3, true},
		{nodeOf(impl.OpMin, 0, 0), 17, 0, 17, 0, 3, true},
		{nodeOf(impl.OpNew, 0, 0), 17, 5, 17, 5, 3, true},
		{nodeOf(impl.OpNew, 0, 0), 17, 999, 17, 999, 3, true},
		{nodeOf(impl.OpBack, 0, 0), 17, 5, 17, 5, 4, false},
		{nodeOf(impl.OpBack, 0, 0), 99, 999, 99, 999, 4, false},
		{nodeOf(impl.OpOut, 0, 0), 17, 5, 17, 5, 3, true},
		{nodeOf(impl.OpOut, 0, 0), 17, 999, 17, 999, 3, true},
	}
	for _, c := range cases {
		for _, outs := range outsAround(c.x.Kind) {
			c.x.Outs = outs
			g, at := around(c.x)
			r := recordOf([5]int{at, 2, 3, c.key, c.val})
			var emitted []impl.Record
			for _, op := range outs {
				if c.turn >= 0 {
					emitted = append(emitted, recordOf([5]int{op, 2, c.turn, c.wantKey, c.wantVal}))
				}
			}
			for _, cells := range [][]impl.Cell{nil, {}, otherCells()} {
				after := cells
				if c.remembers {
					after = plainPutCell(cells, cellOf([4]int{at, 2, c.key, c.val}))
				}
				checkStep(t, g, cells, r, after, emitted, true)
			}
		}
	}
}

// stepCase is a state of operator 3 with the results of StepOp for a record of epoch 2, key 30 and the value 5. A nil list stands for an unchanged state and no record.
type stepCase struct {
	cells, after []impl.Cell
}

func (c stepCase) check(t *testing.T, kind int) {
	t.Helper()
	for _, outs := range outsAround(kind) {
		g, at := around(nodeOf(kind, 0, 0, outs...))
		want := c.after
		var emitted []impl.Record
		for _, op := range outs {
			if want != nil {
				emitted = append(emitted, recordOf([5]int{op, 2, 3, 30, 5}))
			}
		}
		if want == nil {
			want = c.cells
		}
		checkStep(t, g, c.cells, recordOf([5]int{at, 2, 3, 30, 5}), want, emitted, true)
	}
}

// kept returns cells of operator 3, epoch 2 and key 30 with the given values.
func kept(vals ...int) []impl.Cell {
	var list []impl.Cell
	for _, v := range vals {
		list = append(list, impl.Cell{Op: 3, Epoch: 2, Key: 30, Val: v})
	}
	return list
}

func TestStepOpWithTheLeastValue(t *testing.T) {
	// The value in the state is greater, equal and less; and then several values.
	cases := []stepCase{
		{nil, kept(5)},
		{[]impl.Cell{}, kept(5)},
		{kept(6), kept(5)},
		{kept(999), kept(5)},
		{kept(5), nil},
		{kept(4), nil},
		{kept(0), nil},
		{kept(6, 7), kept(5)},
		{kept(5, 6), nil},
		{kept(4, 6), nil},
		// States that no record makes, and that are in no order.
		{kept(-1), nil},
		{kept(math.MinInt), nil},
		{kept(math.MaxInt), kept(5)},
		{kept(9, 7, 6), kept(5)},
		{kept(9, 4, 6), nil},
		{kept(6, 6), kept(5)},
		{kept(5, 5), nil},
	}
	for _, c := range cases {
		for _, kind := range []int{impl.OpMin, impl.OpOut} {
			c.check(t, kind)
		}
	}
}

func TestStepOpWithANewValue(t *testing.T) {
	cases := []stepCase{
		{nil, kept(5)},
		{[]impl.Cell{}, kept(5)},
		{kept(6), kept(5, 6)},
		{kept(4), kept(4, 5)},
		{kept(0, 4, 6, 999), kept(0, 4, 5, 6, 999)},
		{kept(5), nil},
		{kept(4, 5), nil},
		{kept(5, 6), nil},
		{kept(4, 5, 6), nil},
		// States that are in no order.
		{kept(9, 7, 6), kept(5, 9, 7, 6)},
		{kept(9, 4, 6), kept(5, 9, 4, 6)},
		{kept(9, 7, 5), nil},
		{kept(5, 5), nil},
		{kept(6, 6), kept(5, 6, 6)},
	}
	for _, c := range cases {
		c.check(t, impl.OpNew)
	}
}

// A lesser, an equal and a greater value of another operator, epoch or key do not matter.
func TestStepOpWithOtherCells(t *testing.T) {
	x := kept(5)[0]
	for _, kind := range []int{impl.OpMin, impl.OpNew, impl.OpOut} {
		for _, val := range []int{0, 1, 4, 5, 6, 999} {
			for _, other := range cellsOf([4]int{2, 2, 30, val}, [4]int{3, 1, 30, val}, [4]int{3, 2, 29, val}, [4]int{7, 1, 99, val}) {
				stepCase{[]impl.Cell{other}, []impl.Cell{other, x}}.check(t, kind)
				stepCase{[]impl.Cell{other, x}, nil}.check(t, kind)
			}
			for _, other := range cellsOf([4]int{4, 2, 30, val}, [4]int{3, 3, 30, val}, [4]int{3, 2, 31, val}, [4]int{0, 3, 0, val}) {
				stepCase{[]impl.Cell{other}, []impl.Cell{x, other}}.check(t, kind)
				stepCase{[]impl.Cell{x, other}, nil}.check(t, kind)
			}
		}
	}
}

// Turns do not divide the state: a value that was there in one turn is there in the next.
func TestStepOpOfAnotherTurn(t *testing.T) {
	for _, kind := range []int{impl.OpMin, impl.OpNew} {
		g, at := around(nodeOf(kind, 0, 0, 4))
		for turn := range 7 {
			cells, _, _ := impl.StepOp(g, nil, recordOf([5]int{at, 2, turn, 30, 5}))
			for next := range 7 {
				r := recordOf([5]int{at, 2, next, 30, 5})
				checkStep(t, g, cells, r, kept(5), nil, true)
				r.Stamp.Epoch = 1
				checkStep(t, g, cells, r, append(cellsOf([4]int{3, 1, 30, 5}), kept(5)...), recordsOf([5]int{4, 1, next, 30, 5}), true)
			}
		}
	}
}

func TestStepOpOfAFeedbackEdge(t *testing.T) {
	for _, outs := range outsAround(impl.OpBack) {
		g, at := around(nodeOf(impl.OpBack, 0, 0, outs...))
		for epoch := range 4 {
			for turn, next := range []int{1, 2, 3, 4, 5, 6, -1} {
				r := recordOf([5]int{at, epoch, turn, 17, 5})
				var emitted []impl.Record
				for _, op := range outs {
					if next >= 0 {
						emitted = append(emitted, recordOf([5]int{op, epoch, next, 17, 5}))
					}
				}
				for _, cells := range [][]impl.Cell{nil, otherCells(), kept(1, 5)} {
					checkStep(t, g, cells, r, cells, emitted, true)
				}
			}
		}
	}
}

// At every other kind the last turn is as good as any.
func TestStepOpInTheLastTurn(t *testing.T) {
	for kind := 1; kind <= 6; kind++ {
		g, at := around(nodeOf(kind, leastA(kind), 0, 4, 7))
		_, emitted, ok := impl.StepOp(g, nil, recordOf([5]int{at, 3, 6, 17, 5}))
		if want := recordsOf([5]int{4, 3, 6, 17, 5}, [5]int{7, 3, 6, 17, 5}); !ok || !slices.Equal(emitted, want) {
			t.Errorf("StepOp of %s in the last turn emits %v, %v, want %v", impl.KindName(kind), emitted, ok, want)
		}
	}
}

// statesForRefusals are valid and not.
func statesForRefusals() [][]impl.Cell {
	return [][]impl.Cell{nil, {}, kept(5), otherCells(), kept(9, 5, 5, 1), cellsOf([4]int{-1, -1, -1, -1}, [4]int{math.MaxInt, math.MinInt, 100, 1000})}
}

// strangeRecords returns records of which one field is outside its range, each with an operator that loopGraph has, if that is not the field.
func strangeRecords() []impl.Record {
	var list []impl.Record
	for op := range 5 {
		for field, most := range []int{7, 3, 6, 99, 999} {
			for _, n := range []int{-1, -2, most + 1, most + 2, math.MinInt, math.MinInt + 1, math.MaxInt, 1 << 32, -1 << 32, 1<<32 + 1} {
				f := [5]int{op, 1, 1, 1, 1}
				f[field] = n
				list = append(list, recordOf(f))
			}
		}
	}
	for _, r := range wrongRecords() {
		list = append(list, r)
	}
	return list
}

func TestStepOpRefusesGraphs(t *testing.T) {
	for name, g := range wrongGraphs() {
		for op := range 8 {
			for _, cells := range statesForRefusals() {
				r := recordOf([5]int{op, 2, 3, 30, 1})
				after, emitted, ok := impl.StepOp(g, cells, r)
				if ok || len(emitted) != 0 || !slices.Equal(after, cells) {
					t.Errorf("%s: StepOp(.., %v, %v) = %v, %v, %v, want the state unchanged, no records and false", name, cells, r, after, emitted, ok)
				}
				r.Stamp.Turn = 6
				if impl.Capped(g, r) {
					t.Errorf("%s: Capped(.., %v) = true, want false", name, r)
				}
			}
		}
	}
}

func TestStepOpRefusesRecords(t *testing.T) {
	g := loopGraph()
	for _, r := range strangeRecords() {
		for _, cells := range statesForRefusals() {
			checkStep(t, g, cells, r, cells, nil, false)
		}
	}
}

// Every record is refused by a graph that is not valid, and a record that is not valid by every graph.
func TestStepOpRefusesBoth(t *testing.T) {
	for name, g := range wrongGraphs() {
		for _, r := range strangeRecords() {
			if after, emitted, ok := impl.StepOp(g, kept(9, 3), r); ok || len(emitted) != 0 || !slices.Equal(after, kept(9, 3)) {
				t.Errorf("%s: StepOp(.., %v) = %v, %v, %v", name, r, after, emitted, ok)
			}
		}
	}
}

// sizedGraph returns a valid graph of the given size, whose last node is an output.
func sizedGraph(count int) impl.Graph {
	g := graphOf(nodeOf(impl.OpIn, 0, 0))
	for op := 1; op < count; op++ {
		g.Nodes = append(g.Nodes, nodeOf(impl.OpOut, 0, 0))
	}
	return g
}

func TestStepOpRefusesOperatorsThatAreNoNode(t *testing.T) {
	for count := 1; count <= 8; count++ {
		g := sizedGraph(count)
		for _, cells := range statesForRefusals() {
			for op := range count {
				r := recordOf([5]int{op, 1, 1, 1, 1})
				after := cells
				if op > 0 {
					after = plainPutCell(cells, cellOf([4]int{op, 1, 1, 1}))
				}
				checkStep(t, g, cells, r, after, nil, true)
			}
			for _, op := range append(farNumbers(), count, count+1, count+2, 7+count, -count) {
				checkStep(t, g, cells, recordOf([5]int{op, 1, 1, 1, 1}), cells, nil, false)
			}
		}
	}
}

func TestCapped(t *testing.T) {
	for kind := 1; kind <= 8; kind++ {
		for _, outs := range outsAround(kind) {
			g, at := around(nodeOf(kind, leastA(kind), 0, outs...))
			for turn := range 7 {
				for epoch := range 4 {
					r := recordOf([5]int{at, epoch, turn, 17, 5})
					want := kind == impl.OpBack && len(outs) > 0 && turn == 6
					if got := impl.Capped(g, r); got != want {
						t.Errorf("Capped at %s with the successors %v, turn %d = %v, want %v", impl.KindName(kind), outs, turn, got, want)
					}
				}
			}
		}
	}
}

func TestCappedOfNamedRecords(t *testing.T) {
	// In loopGraph, node 3 is the feedback edge.
	cases := []struct {
		r    [5]int
		want bool
	}{
		{[5]int{3, 0, 6, 0, 0}, true},
		{[5]int{3, 3, 6, 99, 999}, true},
		{[5]int{3, 0, 5, 0, 0}, false},
		{[5]int{3, 0, 0, 0, 0}, false},
		{[5]int{0, 0, 6, 0, 0}, false},
		{[5]int{1, 0, 6, 0, 0}, false},
		{[5]int{2, 0, 6, 0, 0}, false},
		{[5]int{4, 0, 6, 0, 0}, false},
		// Numbers that are no node.
		{[5]int{5, 0, 6, 0, 0}, false},
		{[5]int{7, 0, 6, 0, 0}, false},
		{[5]int{8, 0, 6, 0, 0}, false},
		{[5]int{-1, 0, 6, 0, 0}, false},
		{[5]int{1<<32 + 3, 0, 6, 0, 0}, false},
		// A field that is not valid.
		{[5]int{3, 4, 6, 0, 0}, false},
		{[5]int{3, -1, 6, 0, 0}, false},
		{[5]int{3, 0, 7, 0, 0}, false},
		{[5]int{3, 0, -1, 0, 0}, false},
		{[5]int{3, 0, math.MaxInt, 0, 0}, false},
		{[5]int{3, 0, 6, 100, 0}, false},
		{[5]int{3, 0, 6, -1, 0}, false},
		{[5]int{3, 0, 6, 0, 1000}, false},
		{[5]int{3, 0, 6, 0, -1}, false},
	}
	for _, c := range cases {
		if got := impl.Capped(loopGraph(), recordOf(c.r)); got != c.want {
			t.Errorf("Capped(loopGraph, %v) = %v, want %v", recordOf(c.r), got, c.want)
		}
	}
	lone := graphOf(nodeOf(impl.OpIn, 0, 0, 1), nodeOf(impl.OpBack, 0, 0))
	for turn := range 7 {
		if impl.Capped(lone, recordOf([5]int{1, 0, turn, 0, 0})) {
			t.Errorf("Capped at a feedback edge without a successor, turn %d = true, want false", turn)
		}
	}
}

// anyRecord returns a valid record whose operator is less than count. Few keys and values are chosen from, so that records often meet in the state; the last turns come often.
func anyRecord(random *rand.Rand, count int) impl.Record {
	pick := func(numbers ...int) int { return numbers[random.Intn(len(numbers))] }
	return recordOf([5]int{random.Intn(count), random.Intn(4), pick(0, 1, 2, 3, 4, 5, 5, 6, 6), pick(0, 1, 2, 50, 98, 99), pick(0, 1, 2, 500, 998, 999)})
}

// anyState returns a state of at most eight cells, about half of them those that the record may meet: the cell of the record, and others of its key. It is valid in two of three cases.
func anyState(random *rand.Rand, r impl.Record) []impl.Cell {
	var list []impl.Cell
	for range random.Intn(9) {
		c := cellOf([4]int{r.Op, r.Stamp.Epoch, r.Key, r.Val + random.Intn(5) - 2})
		switch random.Intn(8) {
		case 0:
			c.Op++
		case 1:
			c.Epoch--
		case 2:
			c.Key++
		case 3:
			c = anyCell(random, []int{-1, 0, 1, 2, 3, 99})
		}
		list = append(list, c)
	}
	if random.Intn(3) > 0 {
		return inOrderOnce(list)
	}
	return list
}

// checkEmitted checks promise 10 at one step, and what the document says of the successors.
func checkEmitted(t *testing.T, g impl.Graph, cells []impl.Cell, r impl.Record) []impl.Record {
	t.Helper()
	_, emitted, ok := impl.StepOp(g, cells, r)
	x := g.Nodes[r.Op]
	stamp := r.Stamp
	if x.Kind == impl.OpBack {
		stamp.Turn++
	}
	if !ok || len(emitted) != 0 && len(emitted) != len(x.Outs) {
		t.Fatalf("StepOp(%v, %v, %v) emits %v, %v", g, cells, r, emitted, ok)
	}
	for at, e := range emitted {
		if !plainRecordOk(e) || !impl.RecordOk(e) || e.Op >= len(g.Nodes) {
			t.Fatalf("StepOp(%v, %v, %v) emits %v, which is not valid or has no operator", g, cells, r, e)
		}
		if e.Stamp.Epoch != r.Stamp.Epoch || e.Stamp.Turn < r.Stamp.Turn || e.Stamp != stamp || !impl.StampLeq(r.Stamp, e.Stamp) {
			t.Fatalf("StepOp(%v, %v, %v) emits %v, want the stamp %v", g, cells, r, e, stamp)
		}
		if e.Op != x.Outs[at] {
			t.Fatalf("StepOp(%v, %v, %v) emits %v for the successors %v", g, cells, r, emitted, x.Outs)
		}
	}
	return emitted
}

// Promise 10, and the same results as plainStep.
func TestEmittedRecordsKeepTheEpochAndTheTurn(t *testing.T) {
	random := rand.New(rand.NewSource(10))
	emits, stops := map[int]int{}, map[int]int{}
	for _, g := range validGraphs() {
		for range 8 {
			r := anyRecord(random, len(g.Nodes))
			cells := anyState(random, r)
			kind := g.Nodes[r.Op].Kind
			if len(checkEmitted(t, g, cells, r)) > 0 {
				emits[kind]++
			} else if len(g.Nodes[r.Op].Outs) > 0 {
				stops[kind]++
			}
			checkStepLikePlain(t, g, cells, r)
			if got, want := impl.Capped(g, r), plainCapped(g, r); got != want {
				t.Fatalf("Capped(%v, %v) = %v, want %v", g, r, got, want)
			}
		}
	}
	for kind := 1; kind <= 7; kind++ {
		halts := kind == impl.OpKeep || kind == impl.OpMin || kind == impl.OpNew || kind == impl.OpBack
		if emits[kind] < 100 || halts && stops[kind] < 100 || !halts && stops[kind] > 0 {
			t.Errorf("%d records pass at %s, and %d do not", emits[kind], impl.KindName(kind), stops[kind])
		}
	}
}

func TestEmittedRecordsOfEveryKindAndStamp(t *testing.T) {
	random := rand.New(rand.NewSource(101))
	for _, bare := range bareNodes() {
		for _, outs := range outsAround(bare.Kind) {
			x := bare
			x.Outs = outs
			g, at := around(x)
			r := anyRecord(random, 1)
			r.Op = at
			checkEmitted(t, g, nil, r)
			checkStepLikePlain(t, g, anyState(random, r), r)
		}
	}
	for kind := 1; kind <= 8; kind++ {
		for _, outs := range outsAround(kind) {
			g, at := around(nodeOf(kind, leastA(kind), 0, outs...))
			for _, s := range allStamps() {
				r := impl.Record{Op: at, Stamp: s, Key: 30, Val: 5}
				checkStepLikePlain(t, g, kept(7), r)
				if validStamp(s) {
					checkEmitted(t, g, kept(7), r)
				}
				if got, want := impl.Capped(g, r), plainCapped(g, r); got != want {
					t.Errorf("Capped(%v, %v) = %v, want %v", g, r, got, want)
				}
			}
		}
	}
}

// The graphs of alteredGraphs are valid and not, and so are the records.
func TestStepsOfAlteredGraphs(t *testing.T) {
	random := rand.New(rand.NewSource(102))
	for _, g := range alteredGraphs() {
		r := anyRecord(random, 8)
		if random.Intn(4) == 0 {
			r = strangeRecords()[random.Intn(40)]
		}
		cells := anyState(random, r)
		checkStepLikePlain(t, g, cells, r)
		if got, want := impl.Capped(g, r), plainCapped(g, r); got != want {
			t.Fatalf("Capped(%v, %v) = %v, want %v", g, r, got, want)
		}
		checkAllLikePlain(t, "an altered graph", g, cells, []impl.Record{r, anyRecord(random, 8)}, random.Intn(12))
	}
}

// A lost record is one that a feedback edge with a successor emits nothing for.
func TestCappedIsWhatStepOpLoses(t *testing.T) {
	random := rand.New(rand.NewSource(103))
	lost := 0
	for _, g := range validGraphs() {
		for op, x := range g.Nodes {
			r := anyRecord(random, 1)
			r.Op = op
			_, emitted, _ := impl.StepOp(g, nil, r)
			want := isBack(x) && len(x.Outs) > 0 && len(emitted) == 0
			if got := impl.Capped(g, r); got != want {
				t.Fatalf("Capped(%v, %v) = %v, and StepOp emits %v", g, r, got, emitted)
			}
			if want {
				lost++
			}
		}
	}
	if lost < 100 {
		t.Errorf("%d records were lost, want more", lost)
	}
}

// loopCells returns the state of loopGraph after an input of epoch 0 with the key 5 and the value 2 was processed until nothing was left: it went round seven times, in the turns 0 to 6.
func loopCells() []impl.Cell {
	var list []impl.Cell
	for _, op := range []int{1, 4} {
		for key := 5; key <= 11; key++ {
			list = append(list, impl.Cell{Op: op, Key: key, Val: 2})
		}
	}
	return list
}

func TestStepAllOfALoopThatEndsAtTheTurnLimit(t *testing.T) {
	input := recordsOf([5]int{0, 0, 0, 5, 2})
	// One step at the input, and four in each turn: minimum, move, output, feedback edge.
	const whole = 29
	for _, most := range []int{whole, whole + 1, 1000, 100000, 100001, math.MaxInt - 1, math.MaxInt} {
		checkAll(t, "a loop", loopGraph(), nil, input, most, loopCells(), nil, whole)
	}
	// One step earlier the record that will be lost is still there.
	checkAll(t, "a loop", loopGraph(), nil, input, whole-1, loopCells(), recordsOf([5]int{3, 0, 6, 12, 2}), whole-1)
	if lost := recordOf([5]int{3, 0, 6, 12, 2}); !impl.Capped(loopGraph(), lost) {
		t.Errorf("Capped(loopGraph, %v) = false, want true", lost)
	}
}

func TestStepAllOfALoopThatIsCutOff(t *testing.T) {
	input := recordsOf([5]int{0, 0, 0, 5, 2})
	minimum := cellOf([4]int{1, 0, 5, 2})
	both := cellsOf([4]int{1, 0, 5, 2}, [4]int{4, 0, 5, 2})
	cases := []struct {
		most  int
		cells []impl.Cell
		left  []impl.Record
	}{
		{0, nil, input},
		{1, nil, recordsOf([5]int{1, 0, 0, 5, 2})},
		{2, []impl.Cell{minimum}, recordsOf([5]int{2, 0, 0, 5, 2}, [5]int{4, 0, 0, 5, 2})},
		{3, []impl.Cell{minimum}, recordsOf([5]int{4, 0, 0, 5, 2}, [5]int{3, 0, 0, 6, 2})},
		{4, both, recordsOf([5]int{3, 0, 0, 6, 2})},
		{5, both, recordsOf([5]int{1, 0, 1, 6, 2})},
		{6, cellsOf([4]int{1, 0, 5, 2}, [4]int{1, 0, 6, 2}, [4]int{4, 0, 5, 2}), recordsOf([5]int{2, 0, 1, 6, 2}, [5]int{4, 0, 1, 6, 2})},
	}
	for _, c := range cases {
		checkAll(t, "a loop", loopGraph(), nil, input, c.most, c.cells, c.left, c.most)
	}
	for most := range 35 {
		checkAllLikePlain(t, "a loop", loopGraph(), nil, input, most)
		checkAllLikePlain(t, "two loops", doubleLoop(), nil, recordsOf([5]int{0, 1, 0, 5, 2}, [5]int{0, 1, 0, 5, 3}), most)
	}
}

// A loop also ends where a record comes back with a value that is not less than the one that is there.
func TestStepAllOfALoopThatTheStateEnds(t *testing.T) {
	g := loopWith(2, nodeOf(impl.OpAdd, 3, 0, 3))
	want := cellsOf([4]int{1, 0, 5, 2}, [4]int{4, 0, 5, 2})
	checkAll(t, "a loop that adds", g, nil, recordsOf([5]int{0, 0, 0, 5, 2}), 100, want, nil, 6)
	// The value 4 goes round before the value 2 improves it; the other way it gets no further than the minimum.
	checkAll(t, "two values", g, nil, recordsOf([5]int{0, 0, 0, 5, 4}, [5]int{0, 0, 0, 5, 2}), 100, want, nil, 12)
	checkAll(t, "two values the other way", g, nil, recordsOf([5]int{0, 0, 0, 5, 2}, [5]int{0, 0, 0, 5, 4}), 100, want, nil, 8)
}

// lowAndHigh are the numbers of steps that stand for none, and for as many as possible.
func lowAndHigh() ([]int, []int) {
	return []int{0, -1, -2, -100000, -100001, -1 << 32, math.MinInt + 1, math.MinInt}, []int{100000, 100001, 200000, 1 << 31, 1 << 32, math.MaxInt - 1, math.MaxInt}
}

func TestStepAllOfNoSteps(t *testing.T) {
	low, high := lowAndHigh()
	lists := [][]impl.Record{nil, {}, recordsOf([5]int{1, 2, 3, 30, 5}), recordsOf([5]int{-1, 9, 9, 9, 9}, [5]int{}, [5]int{7, 0, 0, 0, 0})}
	for _, cells := range statesForRefusals() {
		for _, list := range lists {
			for _, most := range low {
				checkAll(t, "a loop", loopGraph(), cells, list, most, cells, list, 0)
				checkAll(t, "the zero graph", impl.Graph{}, cells, list, most, cells, list, 0)
			}
		}
		for _, most := range slices.Concat(low, []int{1, 2, 99999}, high) {
			checkAll(t, "a loop", loopGraph(), cells, nil, most, cells, nil, 0)
			checkAll(t, "a loop", loopGraph(), cells, []impl.Record{}, most, cells, nil, 0)
			checkAll(t, "the zero graph", impl.Graph{}, cells, nil, most, cells, nil, 0)
		}
	}
}

// At most 100000 steps are made, however many are allowed.
func TestStepAllOfManySteps(t *testing.T) {
	_, high := lowAndHigh()
	g := graphOf(nodeOf(impl.OpIn, 0, 0))
	for _, more := range []int{0, 1, 2, 3000} {
		list := numberedFrom(0, 100000+more)
		for at := range list {
			list[at] = recordOf([5]int{0, at % 4, at % 7, at % 100, at % 1000})
		}
		for _, most := range []int{1, 99998, 99999} {
			checkAll(t, "many records", g, kept(5), list, most, kept(5), list[most:], most)
		}
		for _, most := range high {
			checkAll(t, "many records", g, kept(5), list, most, kept(5), list[100000:], 100000)
		}
	}
	few := numberedFrom(0, 99999)
	for at := range few {
		few[at] = recordOf([5]int{0, 1, 1, 1, 1})
	}
	for _, most := range append(high, 99999) {
		checkAll(t, "one fewer", g, nil, few, most, nil, nil, 99999)
	}
}

// As many steps as there are records, one fewer and one more, where nothing is emitted.
func TestStepAllOfAsManyStepsAsRecords(t *testing.T) {
	g := sizedGraph(2)
	var list []impl.Record
	var cells []impl.Cell
	for key := range 10 {
		checkAll(t, "outputs", g, nil, list, len(list), cells, nil, len(list))
		checkAll(t, "outputs", g, nil, list, len(list)+1, cells, nil, len(list))
		if key > 0 {
			checkAll(t, "outputs", g, nil, list, len(list)-1, cells[:key-1], list[key-1:], key-1)
		}
		list = append(list, recordOf([5]int{1, 2, 3, key, 5}))
		cells = append(cells, cellOf([4]int{1, 2, key, 5}))
	}
}

// The emitted records come behind those that are there already.
func TestStepAllOfSeveralEpochs(t *testing.T) {
	g := graphOf(nodeOf(impl.OpIn, 0, 0, 2, 1), nodeOf(impl.OpAdd, 4, 0, 3), nodeOf(impl.OpMin, 0, 0, 3), nodeOf(impl.OpOut, 0, 0))
	list := recordsOf([5]int{0, 2, 0, 8, 1}, [5]int{0, 0, 0, 7, 2}, [5]int{3, 1, 0, 6, 3})
	cases := []struct {
		most  int
		cells []impl.Cell
		left  []impl.Record
	}{
		{1, nil, append(list[1:3:3], recordsOf([5]int{2, 2, 0, 8, 1}, [5]int{1, 2, 0, 8, 1})...)},
		{2, nil, append(list[2:3:3], recordsOf([5]int{2, 2, 0, 8, 1}, [5]int{1, 2, 0, 8, 1}, [5]int{2, 0, 0, 7, 2}, [5]int{1, 0, 0, 7, 2})...)},
		{3, cellsOf([4]int{3, 1, 6, 3}), recordsOf([5]int{2, 2, 0, 8, 1}, [5]int{1, 2, 0, 8, 1}, [5]int{2, 0, 0, 7, 2}, [5]int{1, 0, 0, 7, 2})},
		{4, cellsOf([4]int{3, 1, 6, 3}, [4]int{2, 2, 8, 1}), recordsOf([5]int{1, 2, 0, 8, 1}, [5]int{2, 0, 0, 7, 2}, [5]int{1, 0, 0, 7, 2}, [5]int{3, 2, 0, 8, 1})},
		{5, cellsOf([4]int{3, 1, 6, 3}, [4]int{2, 2, 8, 1}), recordsOf([5]int{2, 0, 0, 7, 2}, [5]int{1, 0, 0, 7, 2}, [5]int{3, 2, 0, 8, 1}, [5]int{3, 2, 0, 8, 5})},
	}
	for _, c := range cases {
		checkAll(t, "several epochs", g, nil, list, c.most, c.cells, c.left, c.most)
	}
	whole := cellsOf([4]int{2, 0, 7, 2}, [4]int{3, 0, 7, 2}, [4]int{3, 1, 6, 3}, [4]int{2, 2, 8, 1}, [4]int{3, 2, 8, 1})
	checkAll(t, "several epochs", g, nil, list, 11, whole, nil, 11)
	checkAll(t, "several epochs", g, nil, list, 10, whole, recordsOf([5]int{3, 0, 0, 7, 6}), 10)
}

// A record that StepOp refuses is removed, and counts as a step.
func TestStepAllOfRecordsThatAreRefused(t *testing.T) {
	g := loopGraph()
	refused := append(strangeRecords(), recordsOf([5]int{5, 1, 1, 1, 1}, [5]int{6, 1, 1, 1, 1}, [5]int{7, 1, 1, 1, 1})...)
	out := recordOf([5]int{4, 2, 0, 30, 5})
	after := cellsOf([4]int{4, 2, 30, 5})
	for _, r := range refused {
		checkAll(t, "one record", g, kept(9, 1), []impl.Record{r}, 1, kept(9, 1), nil, 1)
		checkAll(t, "one record", g, nil, []impl.Record{r}, 100, nil, nil, 1)
		checkAll(t, "the first of two", g, nil, []impl.Record{r, out}, 100, after, nil, 2)
		checkAll(t, "the first of two", g, nil, []impl.Record{r, out}, 1, nil, []impl.Record{out}, 1)
		checkAll(t, "the last of two", g, nil, []impl.Record{out, r}, 100, after, nil, 2)
		checkAll(t, "the last of two", g, nil, []impl.Record{out, r}, 1, after, []impl.Record{r}, 1)
	}
	checkAll(t, "all of them", g, kept(5), refused, len(refused)-1, kept(5), refused[len(refused)-1:], len(refused)-1)
	checkAll(t, "all of them", g, kept(5), refused, math.MaxInt, kept(5), nil, len(refused))
}

// A graph that is not valid refuses every record.
func TestStepAllOfWrongGraphs(t *testing.T) {
	list := recordsOf([5]int{0, 0, 0, 5, 2}, [5]int{1, 0, 0, 5, 2}, [5]int{3, 0, 0, 5, 2}, [5]int{4, 0, 0, 5, 2}, [5]int{9, 0, 0, 5, 2})
	for name, g := range wrongGraphs() {
		for _, cells := range statesForRefusals() {
			for most := 0; most <= 5; most++ {
				checkAll(t, name, g, cells, list, most, cells, list[most:], most)
			}
			checkAll(t, name, g, cells, list, 6, cells, nil, 5)
			checkAll(t, name, g, cells, list, math.MaxInt, cells, nil, 5)
		}
	}
}

// anyRecords returns at most most records, of which few are not valid or have no operator.
func anyRecords(random *rand.Rand, count int, most int) []impl.Record {
	var list []impl.Record
	for range random.Intn(most + 1) {
		r := anyRecord(random, count)
		switch random.Intn(20) {
		case 0:
			r.Op = count
		case 1:
			r.Val = -1
		}
		list = append(list, r)
	}
	return list
}

func TestStepAllLikePlain(t *testing.T) {
	random := rand.New(rand.NewSource(104))
	graphs := append(someOfEach(validGraphs()), loopGraph(), doubleLoop(), looseBack())
	for _, g := range graphs {
		for range 6 {
			list := anyRecords(random, len(g.Nodes), 6)
			cells := anyState(random, anyRecord(random, len(g.Nodes)))
			_, _, whole := plainStepAll(g, cells, list, 100000)
			for _, most := range []int{-1, 0, 1, 2, len(list), whole / 2, whole - 1, whole, whole + 1, 100000} {
				checkAllLikePlain(t, "a valid graph", g, cells, list, most)
			}
		}
	}
}

// Going on after some steps gives the same as all steps at once, and one step is StepOp.
func TestStepAllInParts(t *testing.T) {
	random := rand.New(rand.NewSource(105))
	for _, g := range append(someOfEach(validGraphs()), loopGraph(), doubleLoop()) {
		list := anyRecords(random, len(g.Nodes), 5)
		for first := range 6 {
			for second := range 6 {
				whole, wholeLeft, wholeSteps := impl.StepAll(g, nil, list, first+second)
				cells, left, steps := impl.StepAll(g, nil, list, first)
				cells, left, more := impl.StepAll(g, cells, left, second)
				if !slices.Equal(cells, whole) || !slices.Equal(left, wholeLeft) || steps+more != wholeSteps {
					t.Fatalf("%d and %d steps of %v in %v give %v, %v, and at once %v, %v", first, second, list, g, cells, left, whole, wholeLeft)
				}
			}
		}
		if len(list) > 0 {
			cells, emitted, _ := impl.StepOp(g, kept(5), list[0])
			checkAll(t, "one step", g, kept(5), list, 1, cells, slices.Concat(list[1:], emitted), 1)
		}
	}
}

// The records that are left have the epochs of the given ones, and no turn is smaller than the least of its epoch.
func TestStepAllKeepsTheEpochs(t *testing.T) {
	random := rand.New(rand.NewSource(106))
	for _, g := range someOfEach(validGraphs()) {
		list := anyRecords(random, len(g.Nodes), 6)
		list = slices.DeleteFunc(list, func(r impl.Record) bool { return !plainRecordOk(r) })
		for most := range 12 {
			_, left, _ := impl.StepAll(g, nil, list, most)
			for _, r := range left {
				if !impl.RecordOk(r) || !slices.ContainsFunc(list, func(old impl.Record) bool {
					return old.Stamp.Epoch == r.Stamp.Epoch && old.Stamp.Turn <= r.Stamp.Turn
				}) {
					t.Fatalf("StepAll(%v, nil, %v, %d) leaves %v", g, list, most, r)
				}
			}
		}
	}
}

// stepsForMemory are graphs, states and records at which the state changes and at which it does not, and at which records are emitted and not.
func stepsForMemory() []memoryCase {
	var cases []memoryCase
	for kind := 1; kind <= 8; kind++ {
		for _, outs := range [][]int{outsAround(kind)[0], outsAround(kind)[len(outsAround(kind))-1]} {
			g, at := around(nodeOf(kind, leastA(kind), 0, outs...))
			for _, cells := range [][]impl.Cell{nil, {}, kept(5), kept(4), kept(6), kept(6, 7, 8), kept(9, 5, 1), otherCells()} {
				for _, turn := range []int{3, 6} {
					cases = append(cases, memoryCase{g, cells, recordOf([5]int{at, 2, turn, 30, 5})})
				}
			}
		}
	}
	keeps, at := around(nodeOf(impl.OpKeep, 7, 1, 4, 7))
	return append(cases,
		memoryCase{keeps, kept(5), recordOf([5]int{at, 2, 3, 30, 5})},
		memoryCase{loopGraph(), kept(5), recordOf([5]int{5, 2, 3, 30, 5})},
		memoryCase{loopGraph(), kept(5), recordOf([5]int{1, 2, 3, 30, 1000})},
		memoryCase{loopGraph(), kept(5), recordOf([5]int{-1, 2, 3, 30, 5})},
		memoryCase{loopWith(1, impl.Node{}), kept(5), recordOf([5]int{1, 2, 3, 30, 5})},
		memoryCase{impl.Graph{}, kept(5, 6), recordOf([5]int{0, 2, 3, 30, 5})},
	)
}

type memoryCase struct {
	g     impl.Graph
	cells []impl.Cell
	r     impl.Record
}

// queues returns lists of records that begin with the one of the case: it alone, and with others behind it.
func (c memoryCase) queues() [][]impl.Record {
	others := recordsOf([5]int{3, 2, 0, 30, 4}, [5]int{0, 1, 0, 1, 1}, [5]int{6, 9, 9, 9, 9})
	return [][]impl.Record{nil, {}, {c.r}, append([]impl.Record{c.r}, others...), append(slices.Clone(others), c.r)}
}

// spareRecords are what the capacity behind a list of records holds.
func spareRecords() []impl.Record {
	return recordsOf([5]int{3, 2, 1, 30, 1}, [5]int{77, 77, 77, 77, 77}, [5]int{})
}

// spareStepCells are what the capacity behind a state holds: cells that the records of the tests above would meet.
func spareStepCells() []impl.Cell {
	return append(kept(0, 5), cellOf([4]int{9, 9, 9, 9}))
}

func TestStepsDoNotChangeTheirLists(t *testing.T) {
	for _, c := range stepsForMemory() {
		for _, spare := range spareStepCells() {
			checkUnchanged(t, "StepOp", c.cells, nil, spare, func(a []impl.Cell, b []impl.Cell) { impl.StepOp(c.g, a, c.r) })
			for _, list := range c.queues() {
				for _, most := range []int{-1, 0, 1, 2, 100} {
					checkUnchanged(t, "StepAll", c.cells, nil, spare, func(a []impl.Cell, b []impl.Cell) { impl.StepAll(c.g, a, list, most) })
				}
			}
		}
		for _, spare := range spareRecords() {
			for _, list := range c.queues() {
				for _, most := range []int{-1, 0, 1, 2, 100} {
					checkUnchanged(t, "StepAll", list, nil, spare, func(a []impl.Record, b []impl.Record) { impl.StepAll(c.g, c.cells, a, most) })
				}
			}
		}
	}
}

func TestStepsDoNotChangeTheirGraphs(t *testing.T) {
	for _, c := range stepsForMemory() {
		for _, spare := range spareNodes() {
			for _, spareOp := range []int{1, 77} {
				g := roomyGraph(c.g, spare, spareOp)
				want := memoryOf(g)
				impl.StepOp(g, c.cells, c.r)
				impl.Capped(g, c.r)
				impl.StepAll(g, c.cells, []impl.Record{c.r, c.r}, 100)
				if memoryOf(g) != want {
					t.Fatalf("the memory of %v was changed", c.g)
				}
			}
		}
	}
}

func TestStepsShareNoMemoryWithTheirLists(t *testing.T) {
	cellMark, recordMark := cellOf([4]int{88, 88, 88, 88}), recordOf([5]int{88, 88, 88, 88, 88})
	for _, c := range stepsForMemory() {
		for _, spare := range spareStepCells() {
			checkNewMemory(t, "StepOp", c.cells, nil, spare, cellMark, func(a []impl.Cell, b []impl.Cell) []impl.Cell {
				after, _, _ := impl.StepOp(c.g, a, c.r)
				return after
			})
		}
		for _, list := range c.queues() {
			for _, most := range []int{-1, 0, 1, 2, 3, 100} {
				checkNewMemory(t, "the state of StepAll", c.cells, nil, spareStepCells()[0], cellMark, func(a []impl.Cell, b []impl.Cell) []impl.Cell {
					after, _, _ := impl.StepAll(c.g, a, list, most)
					return after
				})
				for _, spare := range spareRecords() {
					checkNewMemory(t, "the records of StepAll", list, nil, spare, recordMark, func(a []impl.Record, b []impl.Record) []impl.Record {
						_, left, _ := impl.StepAll(c.g, c.cells, a, most)
						return left
					})
				}
			}
		}
	}
}

// The emitted records are new in every call, and do not depend on what is behind the successors.
func TestEmittedRecordsAreNewMemory(t *testing.T) {
	mark := recordOf([5]int{88, 88, 88, 88, 88})
	for _, c := range stepsForMemory() {
		for _, spare := range spareNodes() {
			for _, spareOp := range []int{1, 77} {
				g := roomyGraph(c.g, spare, spareOp)
				_, first, ok := impl.StepOp(g, c.cells, c.r)
				_, second, _ := impl.StepOp(g, c.cells, c.r)
				overwrite(second, mark)
				for at := range g.Nodes {
					overwrite(g.Nodes[at].Outs, 66)
				}
				overwrite(g.Nodes, impl.Node{Kind: 66})
				_, want, is := plainStep(c.g, c.cells, c.r)
				if !slices.Equal(first, want) || ok != is {
					t.Fatalf("StepOp(%v, %v, %v) emits %v, %v, want %v, %v", c.g, c.cells, c.r, first, ok, want, is)
				}
				if impl.Capped(roomyGraph(c.g, spare, spareOp), c.r) != plainCapped(c.g, c.r) {
					t.Fatalf("Capped(%v, %v) depends on what is behind the lists of the graph", c.g, c.r)
				}
			}
		}
	}
}

// No call leaves anything behind: calls with another state, graph and records come between two equal ones.
func TestStepsStayTheSame(t *testing.T) {
	results := func() string {
		cells, emitted, ok := impl.StepOp(loopGraph(), kept(5), recordOf([5]int{1, 2, 3, 30, 5}))
		all, left, steps := impl.StepAll(doubleLoop(), nil, recordsOf([5]int{0, 0, 0, 5, 2}, [5]int{0, 1, 0, 4, 3}), 20)
		return fmt.Sprint(cells, emitted, ok, all, left, steps, impl.Capped(loopGraph(), recordOf([5]int{3, 0, 6, 1, 1})))
	}
	first := results()
	impl.StepOp(impl.Graph{}, kept(1), recordOf([5]int{1, 2, 3, 30, 1}))
	impl.StepOp(loopGraph(), nil, recordOf([5]int{1, 2, 3, 30, 1}))
	impl.StepAll(loopGraph(), loopCells(), recordsOf([5]int{0, 0, 0, 5, 1}), 100000)
	impl.Capped(loopGraph(), recordOf([5]int{3, 0, 7, 1, 1}))
	if again := results(); again != first {
		t.Errorf("the results changed from %s to %s", first, again)
	}
}

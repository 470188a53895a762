package tests

import (
	"cmp"
	"fmt"
	"math"
	"math/rand"
	"slices"
	"testing"

	"loop.example/g00973/impl"
)

// plainWorkerOk follows the words of the document one after the other.
func plainWorkerOk(g impl.Graph, w impl.Worker) bool {
	for _, list := range [][]impl.Record{w.Queue, w.Staged, w.Inputs} {
		for _, r := range list {
			if !plainRecordOk(r) || r.Op >= len(g.Nodes) {
				return false
			}
		}
	}
	for at, r := range w.Inputs {
		if r.Op != 0 || r.Stamp.Turn != 0 || slices.ContainsFunc(w.Inputs[:at], func(q impl.Record) bool { return q.Stamp.Epoch > r.Stamp.Epoch }) {
			return false
		}
	}
	for _, n := range w.Sums {
		if n < -1000000 || n > 1000000 {
			return false
		}
	}
	times := map[int]int{}
	for _, d := range w.Dones {
		times[d.Epoch]++
		if d.Epoch < 0 || d.Epoch > 3 || times[d.Epoch] > 1 {
			return false
		}
	}
	return plainCellsOk(w.Cells) && len(w.Sums) == 4 && len(w.Black) == 4 && len(w.Caps) == 4
}

// plainWorkAt counts one record after the other.
func plainWorkAt(w impl.Worker, epoch int) int {
	count := 0
	for _, list := range [][]impl.Record{w.Queue, w.Staged} {
		for _, r := range list {
			if r.Stamp.Epoch == epoch {
				count++
			}
		}
	}
	return count
}

// plainOpenAt looks for an input of the epoch or of an earlier one.
func plainOpenAt(w impl.Worker, epoch int) bool {
	for _, r := range w.Inputs {
		if r.Stamp.Epoch < epoch || r.Stamp.Epoch == epoch {
			return true
		}
	}
	return false
}

// plainCountsAt counts, for one valid stamp after the other, the records of the three lists.
func plainCountsAt(w impl.Worker) []impl.Count {
	var counts []impl.Count
	for epoch := range 4 {
		for turn := range 7 {
			n := 0
			for _, list := range [][]impl.Record{w.Queue, w.Staged, w.Inputs} {
				for _, r := range list {
					if r.Stamp.Epoch == epoch && r.Stamp.Turn == turn {
						n++
					}
				}
			}
			if n > 0 {
				counts = append(counts, impl.Count{Stamp: impl.Stamp{Epoch: epoch, Turn: turn}, N: n})
			}
		}
	}
	return counts
}

func plainIsDone(w impl.Worker, epoch int) bool {
	for _, d := range w.Dones {
		if d.Epoch == epoch {
			return true
		}
	}
	return false
}

// ofEpochs returns a record of operator 0 for each epoch, with different keys.
func ofEpochs(epochs ...int) []impl.Record {
	var list []impl.Record
	for at, epoch := range epochs {
		list = append(list, recordOf([5]int{0, epoch, 0, 30 + at, 5}))
	}
	return list
}

// donesOf returns a Done for each epoch, of which every other one is capped.
func donesOf(epochs ...int) []impl.Done {
	var list []impl.Done
	for at, epoch := range epochs {
		list = append(list, impl.Done{Epoch: epoch, Capped: at%2 == 1})
	}
	return list
}

// fullWorker returns a worker that is valid for loopGraph and has several elements in each list, all of them different where they can be.
func fullWorker() impl.Worker {
	return impl.Worker{
		Queue:  recordsOf([5]int{1, 0, 2, 30, 5}, [5]int{4, 2, 6, 99, 999}, [5]int{2, 1, 0, 0, 0}),
		Staged: recordsOf([5]int{2, 0, 2, 30, 5}, [5]int{4, 0, 2, 31, 6}, [5]int{3, 1, 1, 32, 7}),
		Inputs: recordsOf([5]int{0, 1, 0, 7, 8}, [5]int{0, 1, 0, 7, 3}, [5]int{0, 3, 0, 99, 999}),
		Cells:  cellsOf([4]int{1, 0, 30, 5}, [4]int{4, 0, 30, 9}, [4]int{1, 2, 8, 1}),
		Sums:   []int{1, -2, 3, -1000000},
		Black:  []bool{true, false, false, true},
		Caps:   []bool{false, false, true, true},
		Dones:  donesOf(2, 0, 1),
	}
}

// bareWorker returns a worker as a new one is, without inputs.
func bareWorker() impl.Worker {
	return impl.Worker{Sums: make([]int, 4), Black: make([]bool, 4), Caps: make([]bool, 4)}
}

// withRecords returns a worker with one of its lists of records replaced: 0 is Queue, 1 is Staged and 2 is Inputs.
func withRecords(w impl.Worker, list int, records []impl.Record) impl.Worker {
	switch list {
	case 0:
		w.Queue = records
	case 1:
		w.Staged = records
	case 2:
		w.Inputs = records
	}
	return w
}

// recordLists are the names of the lists that withRecords replaces.
func recordLists() []string {
	return []string{"Queue", "Staged", "Inputs"}
}

func checkWorkerOk(t *testing.T, name string, g impl.Graph, w impl.Worker, want bool) {
	t.Helper()
	if got := impl.WorkerOk(g, w); got != want {
		t.Errorf("%s: WorkerOk(%v, %v) = %v, want %v", name, g, w, got, want)
	}
	if plainWorkerOk(g, w) != want {
		t.Errorf("%s: the test expects %v of %v at %v, and plainWorkerOk does not", name, want, w, g)
	}
}

// checkEpochs compares what the document says of a worker at each epoch.
func checkEpochs(t *testing.T, name string, w impl.Worker, epochs []int) {
	t.Helper()
	for _, epoch := range epochs {
		work, open := plainWorkAt(w, epoch), plainOpenAt(w, epoch)
		if got := impl.WorkAt(w, epoch); got != work {
			t.Errorf("%s: WorkAt(%v, %d) = %d, want %d", name, w, epoch, got, work)
		}
		if got := impl.OpenAt(w, epoch); got != open {
			t.Errorf("%s: OpenAt(%v, %d) = %v, want %v", name, w, epoch, got, open)
		}
		if got, want := impl.PassiveAt(w, epoch), work == 0 && !open; got != want {
			t.Errorf("%s: PassiveAt(%v, %d) = %v, want %v", name, w, epoch, got, want)
		}
		if got, want := impl.IsDone(w, epoch), plainIsDone(w, epoch); got != want {
			t.Errorf("%s: IsDone(%v, %d) = %v, want %v", name, w, epoch, got, want)
		}
	}
}

// epochsAround returns the epochs from -1 to MaxEpoch + 1, and far ones.
func epochsAround() []int {
	return []int{-1, 0, 1, 2, 3, 4, math.MinInt, math.MinInt + 1, math.MaxInt - 1, math.MaxInt, 1 << 32, -1 << 32, 1<<32 + 1}
}

func checkCountsAt(t *testing.T, name string, w impl.Worker, want []impl.Count) {
	t.Helper()
	if got := impl.CountsAt(w); !slices.Equal(got, want) {
		t.Errorf("%s: CountsAt = %v, want %v, at %d, %d and %d records", name, got, want, len(w.Queue), len(w.Staged), len(w.Inputs))
	}
}

func checkSameWorker(t *testing.T, name string, a impl.Worker, b impl.Worker, want bool) {
	t.Helper()
	if impl.SameWorker(a, b) != want || impl.SameWorker(b, a) != want {
		t.Errorf("%s: SameWorker(%v, %v) is not %v in both directions", name, a, b, want)
	}
}

// checkNew checks that a worker is the new one for the inputs.
func checkNew(t *testing.T, name string, w impl.Worker, inputs []impl.Record) {
	t.Helper()
	if !slices.Equal(w.Inputs, inputs) {
		t.Errorf("%s: WorkerNew(%v) has the inputs %v", name, inputs, w.Inputs)
	}
	if len(w.Queue) != 0 || len(w.Staged) != 0 || len(w.Cells) != 0 || len(w.Dones) != 0 {
		t.Errorf("%s: WorkerNew(%v) = %v is not empty", name, inputs, w)
	}
	unset := []bool{false, false, false, false}
	if !slices.Equal(w.Sums, []int{0, 0, 0, 0}) || !slices.Equal(w.Black, unset) || !slices.Equal(w.Caps, unset) {
		t.Errorf("%s: WorkerNew(%v) has the sums %v and the flags %v and %v", name, inputs, w.Sums, w.Black, w.Caps)
	}
}

// inputLists are lists of inputs by name, and whether a new worker with them is valid.
func inputLists() map[string]struct {
	inputs []impl.Record
	valid  bool
} {
	type list = struct {
		inputs []impl.Record
		valid  bool
	}
	lists := map[string]list{
		"none":                              {nil, true},
		"an empty list":                     {[]impl.Record{}, true},
		"one":                               {ofEpochs(0), true},
		"one of the last epoch":             {ofEpochs(3), true},
		"equal epochs":                      {ofEpochs(2, 2, 2), true},
		"several epochs":                    {ofEpochs(0, 1, 2, 3), true},
		"several epochs, some equal":        {ofEpochs(0, 0, 2, 2, 3), true},
		"equal inputs":                      {recordsOf([5]int{0, 1, 0, 30, 5}, [5]int{0, 1, 0, 30, 5}), true},
		"keys and values that fall":         {recordsOf([5]int{0, 1, 0, 99, 999}, [5]int{0, 1, 0, 0, 0}, [5]int{0, 2, 0, 0, 0}), true},
		"many":                              {slices.Repeat(ofEpochs(1), 300), true},
		"descending epochs":                 {ofEpochs(3, 2, 1, 0), false},
		"the last two not in order":         {ofEpochs(0, 1, 3, 2), false},
		"the first two not in order":        {ofEpochs(1, 0, 2, 3), false},
		"not in order beyond an equal one":  {ofEpochs(2, 2, 1), false},
		"one late, the neighbours in order": {ofEpochs(1, 2, 1, 2), false},
		"an input of operator 1":            {recordsOf([5]int{1, 1, 0, 30, 5}), false},
		"an input of operator -1":           {recordsOf([5]int{-1, 1, 0, 30, 5}), false},
		"an input of operator 8":            {recordsOf([5]int{8, 1, 0, 30, 5}), false},
		"an input of turn 1":                {recordsOf([5]int{0, 1, 1, 30, 5}), false},
		"an input of the last turn":         {recordsOf([5]int{0, 1, 6, 30, 5}), false},
		"an input of turn 7":                {recordsOf([5]int{0, 1, 7, 30, 5}), false},
		"an input of turn -1":               {recordsOf([5]int{0, 1, -1, 30, 5}), false},
		"an input of epoch 4":               {ofEpochs(4), false},
		"an input of epoch -1":              {ofEpochs(-1), false},
		"an input of a far epoch":           {ofEpochs(math.MaxInt), false},
		"an input of key 100":               {recordsOf([5]int{0, 1, 0, 100, 5}), false},
		"an input of key -1":                {recordsOf([5]int{0, 1, 0, -1, 5}), false},
		"an input of value 1000":            {recordsOf([5]int{0, 1, 0, 30, 1000}), false},
		"an input of value -1":              {recordsOf([5]int{0, 1, 0, 30, -1}), false},
		"all of it":                         {recordsOf([5]int{9, 9, 9, 900, 9000}, [5]int{-1, -1, -1, -1, -1}), false},
	}
	for at := range 3 {
		later := ofEpochs(1, 1, 1)
		later[at].Op = 1
		lists[fmt.Sprintf("operator 1 at place %d", at)] = list{later, false}
		turned := ofEpochs(1, 1, 1)
		turned[at].Stamp.Turn = 1
		lists[fmt.Sprintf("turn 1 at place %d", at)] = list{turned, false}
	}
	return lists
}

func TestWorkerNew(t *testing.T) {
	for name, c := range inputLists() {
		w := impl.WorkerNew(c.inputs)
		checkNew(t, name, w, c.inputs)
		for _, g := range []impl.Graph{loopGraph(), doubleLoop(), looseBack(), sizedGraph(1), sizedGraph(8), loopAnd(30), graphOf(impl.Node{})} {
			checkWorkerOk(t, name, g, w, c.valid)
		}
		checkWorkerOk(t, name+", no nodes", impl.Graph{}, w, len(c.inputs) == 0)
	}
}

func TestNewWorkersOfShortListsOfInputs(t *testing.T) {
	for _, inputs := range shortRecordLists() {
		checkNew(t, "a short list", impl.WorkerNew(inputs), inputs)
	}
	for _, inputs := range longRecordLists() {
		checkNew(t, "a long list", impl.WorkerNew(inputs), inputs)
	}
}

func byEpoch(a impl.Record, b impl.Record) int {
	return cmp.Compare(a.Stamp.Epoch, b.Stamp.Epoch)
}

// inputsFit reports whether inputs are valid, in order and for operator 0 at turn 0.
func inputsFit(inputs []impl.Record) bool {
	return slices.IsSortedFunc(inputs, byEpoch) &&
		!slices.ContainsFunc(inputs, func(r impl.Record) bool { return !plainRecordOk(r) || r.Op != 0 || r.Stamp.Turn != 0 })
}

// TestNewWorkersAreValidIfTheirInputsAre is the first half of promise 12.
func TestNewWorkersAreValidIfTheirInputsAre(t *testing.T) {
	random := rand.New(rand.NewSource(121))
	graphs := append(someOfEach(validGraphs()), loopGraph(), loopAnd(30))
	for _, g := range wrongGraphs() {
		graphs = append(graphs, g)
	}
	seen := map[bool]int{}
	for at := range 20000 {
		g, inputs := graphs[at%len(graphs)], anyInputs(random, 6)
		if random.Intn(4) > 0 {
			slices.SortStableFunc(inputs, byEpoch)
		}
		if len(g.Nodes) == 0 {
			continue
		}
		fit := inputsFit(inputs)
		seen[fit]++
		if got := impl.WorkerOk(g, impl.WorkerNew(inputs)); got != fit {
			t.Fatalf("WorkerOk(%v, WorkerNew(%v)) = %v, want %v", g, inputs, got, fit)
		}
	}
	if seen[true] < 5000 || seen[false] < 5000 {
		t.Errorf("the inputs were too much alike: %v", seen)
	}
}

// eachEpochList visits every list of at most three of the epochs.
func eachEpochList(epochs []int, visit func(list []int)) {
	lists := [][]int{nil}
	for at := 0; at < len(lists); at++ {
		visit(lists[at])
		if len(lists[at]) < 3 {
			for _, epoch := range epochs {
				lists = append(lists, append(slices.Clone(lists[at]), epoch))
			}
		}
	}
}

func TestNewWorkersOfEveryOrderOfEpochs(t *testing.T) {
	eachEpochList([]int{-1, 0, 1, 2, 3, 4, math.MinInt, math.MaxInt}, func(list []int) {
		ok := !slices.ContainsFunc(list, func(epoch int) bool { return epoch < 0 || epoch > 3 })
		w := impl.WorkerNew(ofEpochs(list...))
		checkNew(t, "a list of epochs", w, ofEpochs(list...))
		checkWorkerOk(t, "a list of epochs", loopGraph(), w, ok && slices.IsSorted(list))
		checkEpochs(t, "a list of epochs", w, epochsAround())
	})
}

func TestWorkerOk(t *testing.T) {
	checkWorkerOk(t, "a full worker", loopGraph(), fullWorker(), true)
	checkWorkerOk(t, "a bare worker", loopGraph(), bareWorker(), true)
	checkWorkerOk(t, "the zero worker", loopGraph(), impl.Worker{}, false)
	empty := bareWorker()
	empty.Queue, empty.Staged, empty.Inputs = []impl.Record{}, []impl.Record{}, []impl.Record{}
	empty.Cells, empty.Dones = []impl.Cell{}, []impl.Done{}
	checkWorkerOk(t, "empty lists", loopGraph(), empty, true)
}

// The records are looked at with their operator only, so the graph itself may be wrong.
func TestWorkerOkDoesNotAskForAValidGraph(t *testing.T) {
	for name, g := range wrongGraphs() {
		checkWorkerOk(t, name, g, bareWorker(), true)
		checkWorkerOk(t, name, g, impl.WorkerNew(ofEpochs(0, 1)), len(g.Nodes) > 0)
	}
	g := loopGraph()
	g.Workers, g.Cap = math.MinInt, math.MaxInt
	checkWorkerOk(t, "sizes that are far off", g, fullWorker(), true)
	checkWorkerOk(t, "zero nodes", impl.Graph{Nodes: make([]impl.Node, 5)}, fullWorker(), true)
	checkWorkerOk(t, "one zero node too few", impl.Graph{Nodes: make([]impl.Node, 4)}, fullWorker(), false)
	checkWorkerOk(t, "many zero nodes", impl.Graph{Nodes: make([]impl.Node, 300)}, fullWorker(), true)
}

// fieldLimits are the greatest values of the fields of a record.
func fieldLimits() []int {
	return []int{7, 3, 6, 99, 999}
}

// TestWorkerOkOfOneRecord puts a record of which one field is at or beyond its limits at each place of each list. The graph has more nodes than any operator that is asked for, but for the far ones.
func TestWorkerOkOfOneRecord(t *testing.T) {
	g := loopAnd(10)
	for list, name := range recordLists() {
		for field, most := range fieldLimits() {
			for _, n := range []int{0, most, -1, most + 1, -2, most + 2, math.MinInt, math.MaxInt, 1 << 32, -1 << 32} {
				for at := range 3 {
					f := [5]int{0, 1, 0, 30, 5}
					f[field] = n
					records := slices.Repeat(recordsOf([5]int{0, 1, 0, 30, 5}), 3)
					records[at] = recordOf(f)
					want := n >= 0 && n <= most
					if list == 2 {
						want = want && f[0] == 0 && f[2] == 0 && inputsFit(records)
					}
					checkWorkerOk(t, fmt.Sprintf("%s, place %d, field %d is %d", name, at, field, n), g, withRecords(bareWorker(), list, records), want)
				}
			}
		}
	}
}

func TestWorkerOkOfTheLastOperator(t *testing.T) {
	for count := range 12 {
		g := impl.Graph{Nodes: make([]impl.Node, count)}
		if count > 0 {
			g = sizedGraph(count)
		}
		for list, name := range recordLists() {
			for _, op := range append(farNumbers(), 0, count-2, count-1, count, count+1, count+2, 6, 7, 8) {
				for at := range 2 {
					records := ofEpochs(1, 1)
					records[at].Op = op
					want := op >= 0 && op < count && op <= 7
					if list == 2 {
						want = want && op == 0
					}
					if count == 0 {
						want = false
					}
					checkWorkerOk(t, fmt.Sprintf("%s, place %d, operator %d of %d", name, at, op, count), g, withRecords(bareWorker(), list, records), want)
				}
			}
		}
	}
}

func TestWorkerOkOfAGraphWithoutNodes(t *testing.T) {
	for _, g := range []impl.Graph{{}, {Nodes: []impl.Node{}}, {Workers: 2, Cap: 3}} {
		checkWorkerOk(t, "no records", g, bareWorker(), true)
		rich := fullWorker()
		rich.Queue, rich.Staged, rich.Inputs = nil, nil, nil
		checkWorkerOk(t, "cells, sums, flags and dones, but no records", g, rich, true)
		for list, name := range recordLists() {
			checkWorkerOk(t, name, g, withRecords(bareWorker(), list, ofEpochs(0)), false)
		}
	}
}

// Only inputs are for operator 0 at turn 0, and only they are in order.
func TestWorkerOkOfInputs(t *testing.T) {
	g := loopGraph()
	for list, name := range recordLists() {
		for op := range 5 {
			for turn := range 7 {
				records := recordsOf([5]int{op, 1, turn, 30, 5})
				checkWorkerOk(t, name, g, withRecords(bareWorker(), list, records), list != 2 || op == 0 && turn == 0)
				checkWorkerOk(t, name, g, withRecords(fullWorker(), list, records), list != 2 || op == 0 && turn == 0)
			}
		}
		eachEpochList([]int{0, 1, 2, 3}, func(epochs []int) {
			checkWorkerOk(t, name, g, withRecords(fullWorker(), list, ofEpochs(epochs...)), list != 2 || slices.IsSorted(epochs))
		})
	}
}

// The epochs of inputs may be lower than those of the other lists, and higher.
func TestWorkerOkDoesNotCompareTheLists(t *testing.T) {
	for input := range 4 {
		for queued := range 4 {
			w := bareWorker()
			w.Inputs, w.Queue, w.Staged = ofEpochs(input), ofEpochs(queued), ofEpochs(3-queued)
			w.Dones = donesOf(input, (input+1)%4)
			checkWorkerOk(t, "epochs of all lists", loopGraph(), w, true)
		}
	}
}

func TestWorkerOkOfCells(t *testing.T) {
	for _, cells := range shortCellLists() {
		w := bareWorker()
		w.Cells = cells
		checkWorkerOk(t, "a short list of cells", loopGraph(), w, plainCellsOk(cells))
	}
	for _, cells := range longCellLists() {
		w := fullWorker()
		w.Cells = cells
		checkWorkerOk(t, "a long list of cells", loopGraph(), w, plainCellsOk(cells))
		w.Cells = inOrderOnce(cells)
		checkWorkerOk(t, "a long list of cells in order", loopGraph(), w, true)
	}
	w := fullWorker()
	w.Cells[0], w.Cells[1] = w.Cells[1], w.Cells[0]
	checkWorkerOk(t, "cells that are out of order", loopGraph(), w, false)
	w = fullWorker()
	w.Cells[1] = w.Cells[2]
	checkWorkerOk(t, "a cell that is given twice", loopGraph(), w, false)
	w.Cells = cellsOf([4]int{-1, -1, -1, -1}, [4]int{math.MaxInt, 0, 100, 1000})
	checkWorkerOk(t, "cells of which only the order is looked at", loopGraph(), w, true)
}

func TestWorkerOkOfLengths(t *testing.T) {
	for _, length := range []int{0, 1, 2, 3, 4, 5, 8, 300} {
		w := fullWorker()
		w.Sums = make([]int, length)
		checkWorkerOk(t, fmt.Sprintf("%d sums", length), loopGraph(), w, length == 4)
		w = fullWorker()
		w.Black = make([]bool, length)
		checkWorkerOk(t, fmt.Sprintf("%d black flags", length), loopGraph(), w, length == 4)
		w = fullWorker()
		w.Caps = make([]bool, length)
		checkWorkerOk(t, fmt.Sprintf("%d flags of loss", length), loopGraph(), w, length == 4)
		w = fullWorker()
		w.Sums, w.Black, w.Caps = make([]int, length), make([]bool, length), make([]bool, length)
		checkWorkerOk(t, fmt.Sprintf("%d of each", length), loopGraph(), w, length == 4)
	}
	for sums := range 9 {
		for black := range 9 {
			for caps := range 9 {
				w := fullWorker()
				w.Sums, w.Black, w.Caps = make([]int, sums), make([]bool, black), make([]bool, caps)
				checkWorkerOk(t, "three lengths", loopGraph(), w, sums == 4 && black == 4 && caps == 4)
			}
		}
	}
}

func TestWorkerOkOfSums(t *testing.T) {
	for at := range 4 {
		for _, n := range []int{-1000001, -1000000, -999999, -1, 0, 1, 999999, 1000000, 1000001, 2000000, math.MinInt, math.MinInt + 1, math.MaxInt, 1 << 32, -1 << 32} {
			for _, others := range []int{0, 1000000, -1000000} {
				w := fullWorker()
				w.Sums = []int{others, others, others, others}
				w.Sums[at] = n
				checkWorkerOk(t, fmt.Sprintf("sum %d is %d", at, n), loopGraph(), w, n >= -1000000 && n <= 1000000)
			}
		}
	}
}

func TestWorkerOkOfFlags(t *testing.T) {
	for bits := range 256 {
		w := fullWorker()
		for at := range 4 {
			w.Black[at], w.Caps[at] = bits>>at&1 == 1, bits>>(at+4)&1 == 1
		}
		checkWorkerOk(t, "flags", loopGraph(), w, true)
	}
}

func TestWorkerOkOfDones(t *testing.T) {
	eachEpochList([]int{-1, 0, 1, 2, 3, 4, math.MinInt, math.MaxInt, 1 << 32}, func(epochs []int) {
		ok := true
		for at, epoch := range epochs {
			ok = ok && epoch >= 0 && epoch <= 3 && !slices.Contains(epochs[:at], epoch)
		}
		w := fullWorker()
		w.Dones = donesOf(epochs...)
		checkWorkerOk(t, "dones", loopGraph(), w, ok)
	})
	for _, epochs := range [][]int{{0, 1, 2, 3}, {3, 2, 1, 0}, {2, 0, 3, 1}} {
		for _, more := range []int{-1, 0, 1, 2, 3, 4} {
			for _, capped := range []bool{false, true} {
				w := fullWorker()
				w.Dones = donesOf(epochs...)
				checkWorkerOk(t, "all epochs", loopGraph(), w, true)
				w.Dones = append(w.Dones, impl.Done{Epoch: more, Capped: capped})
				checkWorkerOk(t, "five dones", loopGraph(), w, false)
			}
		}
	}
	for _, flags := range [][2]bool{{false, false}, {false, true}, {true, false}, {true, true}} {
		w := bareWorker()
		w.Dones = []impl.Done{{Epoch: 2, Capped: flags[0]}, {Epoch: 2, Capped: flags[1]}}
		checkWorkerOk(t, "an epoch twice", loopGraph(), w, false)
		w.Dones[1].Epoch = 3
		checkWorkerOk(t, "two epochs", loopGraph(), w, true)
	}
}

// anyWorker returns a worker with at most five records in each list, which is often valid for a graph of the given size.
func anyWorker(random *rand.Rand, count int) impl.Worker {
	w := bareWorker()
	few := func() []impl.Record {
		list := anyRecords(random, count, 5)
		if random.Intn(3) == 0 {
			return nil
		}
		return list
	}
	w.Queue, w.Staged, w.Inputs = few(), few(), anyInputs(random, 3)
	if random.Intn(4) > 0 {
		slices.SortStableFunc(w.Inputs, byEpoch)
	}
	w.Cells = anyState(random, anyRecord(random, count))
	for at := range 4 {
		w.Sums[at] = []int{0, random.Intn(9) - 4, -1000000, 1000000}[random.Intn(4)]
		w.Black[at], w.Caps[at] = random.Intn(2) == 0, random.Intn(2) == 0
	}
	for _, epoch := range random.Perm(4)[:random.Intn(5)] {
		w.Dones = append(w.Dones, impl.Done{Epoch: epoch, Capped: random.Intn(2) == 0})
	}
	switch random.Intn(20) {
	case 0:
		w.Sums[random.Intn(4)] = []int{-1000001, 1000001}[random.Intn(2)]
	case 1:
		w.Sums = make([]int, random.Intn(6))
	case 2:
		w.Black = make([]bool, random.Intn(6))
	case 3:
		w.Caps = make([]bool, random.Intn(6))
	case 4:
		w.Dones = append(w.Dones, impl.Done{Epoch: random.Intn(6) - 1})
	}
	return w
}

func TestWorkerOkOfManyWorkers(t *testing.T) {
	random := rand.New(rand.NewSource(122))
	graphs := append(someOfEach(validGraphs()), loopGraph(), doubleLoop())
	seen := map[bool]int{}
	for at := range 40000 {
		g := graphs[at%len(graphs)]
		w := anyWorker(random, len(g.Nodes))
		want := plainWorkerOk(g, w)
		seen[want]++
		if got := impl.WorkerOk(g, w); got != want {
			t.Fatalf("WorkerOk(%v, %v) = %v, want %v", g, w, got, want)
		}
	}
	if seen[true] < 4000 || seen[false] < 4000 {
		t.Errorf("the workers were too much alike: %v", seen)
	}
}

// strangeWorker returns a worker with records of few epochs, of which some are far away, and Dones of any epochs; its inputs are in no order.
func strangeWorker(random *rand.Rand) impl.Worker {
	epochs := []int{-1, 0, 0, 1, 1, 2, 3, 4, math.MinInt, math.MaxInt, 1 << 32}
	some := func() []impl.Record {
		var list []impl.Record
		for range random.Intn(4) {
			list = append(list, recordOf([5]int{random.Intn(3), epochs[random.Intn(len(epochs))], random.Intn(9) - 1, random.Intn(3), 5}))
		}
		return list
	}
	w := impl.Worker{Queue: some(), Staged: some(), Inputs: some()}
	for range random.Intn(4) {
		w.Dones = append(w.Dones, impl.Done{Epoch: epochs[random.Intn(len(epochs))], Capped: random.Intn(2) == 0})
	}
	return w
}

// TestPassive is the second half of promise 12: a worker is passive exactly if no record of the epoch is in Queue or Staged, and no record of that epoch or an earlier one is in Inputs.
func TestPassive(t *testing.T) {
	random := rand.New(rand.NewSource(123))
	seen := map[bool]int{}
	for at := range 20000 {
		w := strangeWorker(random)
		if at%2 == 0 {
			w = anyWorker(random, 5)
		}
		for epoch := -1; epoch <= 4; epoch++ {
			has := slices.ContainsFunc(slices.Concat(w.Queue, w.Staged), func(r impl.Record) bool { return r.Stamp.Epoch == epoch })
			gets := slices.ContainsFunc(w.Inputs, func(r impl.Record) bool { return r.Stamp.Epoch <= epoch })
			passive := impl.PassiveAt(w, epoch)
			seen[passive]++
			if passive != (!has && !gets) {
				t.Fatalf("PassiveAt(%v, %d) = %v", w, epoch, passive)
			}
			if !passive && !has && !gets || passive && impl.WorkAt(w, epoch) != 0 {
				t.Fatalf("PassiveAt(%v, %d) and WorkAt are at odds", w, epoch)
			}
		}
		checkEpochs(t, "a strange worker", w, epochsAround())
		checkCountsAt(t, "a strange worker", w, plainCountsAt(w))
	}
	if seen[true] < 10000 || seen[false] < 10000 {
		t.Errorf("the workers were too much alike: %v", seen)
	}
}

// An input keeps its own epoch open and all later ones, and a record of the other lists its own epoch alone.
func TestPassiveWithInputsOfAnEarlierEpoch(t *testing.T) {
	for input := range 4 {
		w := impl.WorkerNew(ofEpochs(input))
		for epoch := -1; epoch <= 4; epoch++ {
			if impl.PassiveAt(w, epoch) != (epoch < input) {
				t.Errorf("PassiveAt(%v, %d) = %v", w, epoch, epoch >= input)
			}
		}
	}
	for _, list := range []int{0, 1} {
		for queued := range 4 {
			w := withRecords(impl.WorkerNew(nil), list, ofEpochs(queued))
			for epoch := -1; epoch <= 4; epoch++ {
				if impl.PassiveAt(w, epoch) != (epoch != queued) {
					t.Errorf("PassiveAt(%v, %d) = %v", w, epoch, epoch == queued)
				}
			}
		}
	}
	none := impl.WorkerNew(nil)
	for _, epoch := range epochsAround() {
		if !impl.PassiveAt(none, epoch) || !impl.PassiveAt(impl.Worker{}, epoch) {
			t.Errorf("a worker without records is not passive at %d", epoch)
		}
	}
}

// Nothing but records makes a worker active.
func TestPassiveWithCellsAndFlags(t *testing.T) {
	w := fullWorker()
	w.Queue, w.Staged, w.Inputs = nil, nil, nil
	for _, epoch := range epochsAround() {
		if !impl.PassiveAt(w, epoch) || impl.OpenAt(w, epoch) || impl.WorkAt(w, epoch) != 0 {
			t.Errorf("a worker without records is not passive at %d", epoch)
		}
	}
	checkCountsAt(t, "a worker without records", w, nil)
}

func TestWorkAt(t *testing.T) {
	cases := []struct {
		name                   string
		queue, staged, inputs  []int
		before, at, after, far int
	}{
		{"nothing", nil, nil, nil, 0, 0, 0, 0},
		{"in Queue only", []int{2}, nil, nil, 0, 1, 0, 0},
		{"in Staged only", nil, []int{2}, nil, 0, 1, 0, 0},
		{"in both", []int{2}, []int{2}, nil, 0, 2, 0, 0},
		{"in neither", []int{1}, []int{3}, nil, 1, 0, 1, 0},
		{"in Inputs only", nil, nil, []int{1, 2, 3}, 0, 0, 0, 0},
		{"in all", []int{2, 2}, []int{2, 1, 2}, []int{2, 2, 2}, 1, 4, 0, 0},
		{"several epochs", []int{1, 2, 3, 1, math.MaxInt}, []int{3, 3, 2, math.MaxInt, math.MinInt}, []int{1}, 2, 2, 3, 2},
	}
	for _, c := range cases {
		w := bareWorker()
		w.Queue, w.Staged, w.Inputs = ofEpochs(c.queue...), ofEpochs(c.staged...), ofEpochs(c.inputs...)
		got := [4]int{impl.WorkAt(w, 1), impl.WorkAt(w, 2), impl.WorkAt(w, 3), impl.WorkAt(w, math.MaxInt)}
		if want := [4]int{c.before, c.at, c.after, c.far}; got != want {
			t.Errorf("%s: WorkAt is %v, want %v", c.name, got, want)
		}
		checkEpochs(t, c.name, w, epochsAround())
	}
}

// Every record is counted, an equal one as well, and one that is not valid too.
func TestWorkAtOfManyRecords(t *testing.T) {
	w := bareWorker()
	w.Queue = slices.Repeat(recordsOf([5]int{9, 2, 99, 900, 9000}), 300)
	w.Staged = slices.Repeat(recordsOf([5]int{-1, 2, -1, -1, -1}, [5]int{0, -1, 0, 0, 0}), 200)
	for epoch, want := range map[int]int{2: 500, -1: 200, 0: 0, 1: 0, 3: 0, 4: 0} {
		if got := impl.WorkAt(w, epoch); got != want {
			t.Errorf("WorkAt(.., %d) = %d, want %d", epoch, got, want)
		}
	}
}

func TestOpenAt(t *testing.T) {
	for _, epoch := range []int{-1, 0, 1, 2, 3, 4, math.MinInt + 1, math.MaxInt - 1} {
		later := epoch + 1
		for _, input := range []struct {
			epoch int
			open  bool
		}{{epoch - 1, true}, {epoch, true}, {epoch + 1, false}, {math.MinInt, true}, {math.MaxInt, false}} {
			w := bareWorker()
			w.Inputs = ofEpochs(input.epoch)
			if impl.OpenAt(w, epoch) != input.open {
				t.Errorf("OpenAt(%v, %d) = %v", w, epoch, !input.open)
			}
			for at := range 4 {
				w.Inputs = ofEpochs(later, later, later, later)
				w.Inputs[at].Stamp.Epoch = input.epoch
				if impl.OpenAt(w, epoch) != input.open {
					t.Errorf("OpenAt(%v, %d) = %v", w, epoch, !input.open)
				}
			}
		}
	}
}

func TestOpenAtBothEnds(t *testing.T) {
	cases := []struct {
		inputs []int
		epoch  int
		open   bool
	}{
		{nil, math.MaxInt, false},
		{nil, math.MinInt, false},
		{nil, 0, false},
		{[]int{math.MaxInt}, math.MaxInt, true},
		{[]int{math.MaxInt}, math.MaxInt - 1, false},
		{[]int{math.MinInt}, math.MinInt, true},
		{[]int{math.MinInt + 1}, math.MinInt, false},
		{[]int{math.MinInt}, math.MaxInt, true},
		{[]int{math.MaxInt}, math.MinInt, false},
		{[]int{0}, math.MaxInt, true},
		{[]int{0}, math.MinInt, false},
		{[]int{3, 2, 1, 0}, 0, true},
		{[]int{3, 2, 1}, 0, false},
		{[]int{3, 1, 2}, 1, true},
		{[]int{2, 3, 3, 2}, 1, false},
	}
	for _, c := range cases {
		w := bareWorker()
		w.Inputs = ofEpochs(c.inputs...)
		if impl.OpenAt(w, c.epoch) != c.open {
			t.Errorf("OpenAt of inputs of %v at %d = %v", c.inputs, c.epoch, !c.open)
		}
		// What is in the other lists is no input.
		w.Inputs, w.Queue, w.Staged = nil, ofEpochs(c.inputs...), ofEpochs(c.inputs...)
		if impl.OpenAt(w, c.epoch) {
			t.Errorf("OpenAt of a queue of %v at %d = true", c.inputs, c.epoch)
		}
	}
}

func TestCountsAt(t *testing.T) {
	a, b, last := [5]int{1, 2, 0, 17, 5}, [5]int{3, 1, 4, 18, 6}, [5]int{4, 3, 6, 0, 0}
	cases := []struct {
		name                  string
		queue, staged, inputs []impl.Record
		want                  []impl.Count
	}{
		{"nothing", nil, nil, nil, nil},
		{"empty lists", []impl.Record{}, []impl.Record{}, []impl.Record{}, nil},
		{"in Queue", recordsOf(a), nil, nil, countsOf([3]int{2, 0, 1})},
		{"in Staged", nil, recordsOf(a), nil, countsOf([3]int{2, 0, 1})},
		{"in Inputs", nil, nil, recordsOf(a), countsOf([3]int{2, 0, 1})},
		{"in Queue and Staged", recordsOf(a), recordsOf(a), nil, countsOf([3]int{2, 0, 2})},
		{"in all", recordsOf(a), recordsOf(a), recordsOf(a), countsOf([3]int{2, 0, 3})},
		{"in all, several times", recordsOf(a, a), recordsOf(a, a, a), recordsOf(a), countsOf([3]int{2, 0, 6})},
		{"several stamps", recordsOf(a, last), recordsOf(b), recordsOf(a), countsOf([3]int{1, 4, 1}, [3]int{2, 0, 2}, [3]int{3, 6, 1})},
		{"one stamp in each", recordsOf(last), recordsOf(a), recordsOf(b), countsOf([3]int{1, 4, 1}, [3]int{2, 0, 1}, [3]int{3, 6, 1})},
		{
			"stamps that are not valid",
			recordsOf([5]int{1, -1, 0, 0, 0}, a), recordsOf([5]int{1, 4, 0, 0, 0}, [5]int{1, 0, 7, 0, 0}), recordsOf([5]int{0, 0, -1, 0, 0}, [5]int{0, math.MinInt, math.MaxInt, 0, 0}),
			countsOf([3]int{2, 0, 1}),
		},
		{"only stamps that are not valid", recordsOf([5]int{1, -1, 0, 0, 0}), recordsOf([5]int{1, 4, 6, 0, 0}), recordsOf([5]int{0, 0, 7, 0, 0}), nil},
		{"records that are not valid", recordsOf([5]int{9, 2, 0, 100, -1}), recordsOf([5]int{-1, 2, 0, 17, 1000}), recordsOf([5]int{5, 2, 0, -1, 5}), countsOf([3]int{2, 0, 3})},
	}
	for _, c := range cases {
		w := bareWorker()
		w.Queue, w.Staged, w.Inputs = c.queue, c.staged, c.inputs
		checkCountsAt(t, c.name, w, c.want)
		if want := plainCountsAt(w); !slices.Equal(want, c.want) {
			t.Errorf("%s: plainCountsAt = %v, want %v", c.name, want, c.want)
		}
	}
	checkCountsAt(t, "a full worker", fullWorker(), countsOf([3]int{0, 2, 3}, [3]int{1, 0, 3}, [3]int{1, 1, 1}, [3]int{2, 6, 1}, [3]int{3, 0, 1}))
}

func TestCountsAtOfEveryStamp(t *testing.T) {
	for list, name := range recordLists() {
		w := bareWorker()
		var records []impl.Record
		for _, s := range append(allStamps(), farStamps()...) {
			for key := range s.Turn%3 + 3 {
				records = append(records, impl.Record{Stamp: s, Key: key})
			}
		}
		w = withRecords(w, list, records)
		checkCountsAt(t, name, w, plainCountsAt(w))
		checkCountsAt(t, name, w, impl.CountsOfRecords(records))
		slices.Reverse(records)
		checkCountsAt(t, name+" reversed", w, plainCountsAt(w))
	}
}

// The three lists are counted together: no count is left out because it is beyond the range of a valid table.
func TestCountsAtBeyondTheRangeOfATable(t *testing.T) {
	many := slices.Repeat(recordsOf([5]int{0, 2, 0, 17, 5}), 500000)
	w := bareWorker()
	w.Queue, w.Staged, w.Inputs = many, many, many
	checkCountsAt(t, "many records", w, countsOf([3]int{2, 0, 1500000}))
	if got := impl.WorkAt(w, 2); got != 1000000 {
		t.Errorf("WorkAt of many records = %d, want 1000000", got)
	}
}

func TestIsDone(t *testing.T) {
	cases := []struct {
		name  string
		dones []int
		in    []int
		out   []int
	}{
		{"none", nil, nil, epochsAround()},
		{"one", []int{2}, []int{2}, []int{-1, 0, 1, 3, 4, math.MinInt, math.MaxInt, 2 + 1<<32}},
		{"epoch 0", []int{0}, []int{0}, []int{-1, 1, 2, 3, 4, math.MinInt, 1 << 32}},
		{"first and last", []int{3, 1, 2}, []int{3, 1, 2}, []int{-1, 0, 4}},
		{"all", []int{1, 0, 3, 2}, []int{0, 1, 2, 3}, []int{-1, 4}},
		{"an epoch twice", []int{1, 1}, []int{1}, []int{0, 2}},
		{"epochs that are not valid", []int{-1, 4, math.MinInt, math.MaxInt}, []int{-1, 4, math.MinInt, math.MaxInt}, []int{0, 1, 2, 3, math.MinInt + 1, math.MaxInt - 1}},
	}
	for _, c := range cases {
		w := impl.Worker{Dones: donesOf(c.dones...)}
		for _, epoch := range c.in {
			if !impl.IsDone(w, epoch) {
				t.Errorf("%s: IsDone(.., %d) = false", c.name, epoch)
			}
		}
		for _, epoch := range c.out {
			if impl.IsDone(w, epoch) {
				t.Errorf("%s: IsDone(.., %d) = true", c.name, epoch)
			}
		}
	}
	for _, capped := range []bool{false, true} {
		w := impl.Worker{Dones: []impl.Done{{Epoch: 1, Capped: capped}}}
		if !impl.IsDone(w, 1) || impl.IsDone(w, 0) {
			t.Errorf("IsDone looks at Capped, which is %v", capped)
		}
	}
	// Records, sums and flags of an epoch do not make it done.
	w := fullWorker()
	w.Dones = nil
	checkEpochs(t, "no dones", w, epochsAround())
}

// alterations returns workers that differ from w in one list: each element changed in each way, taken away, given twice, or exchanged with the next one, and the list empty.
func alterations[E comparable](list []E, others func(x E) []E) [][]E {
	var altered [][]E
	add := func(other []E) {
		if !slices.Equal(other, list) {
			altered = append(altered, other)
		}
	}
	add(nil)
	add(slices.Concat(list, list))
	for at, x := range list {
		for _, other := range others(x) {
			changed := slices.Clone(list)
			changed[at] = other
			add(changed)
			add(slices.Insert(slices.Clone(list), at, other))
		}
		add(slices.Delete(slices.Clone(list), at, at+1))
		add(slices.Insert(slices.Clone(list), at, x))
		add(slices.Clone(list[:at]))
		if at+1 < len(list) {
			swapped := slices.Clone(list)
			swapped[at], swapped[at+1] = swapped[at+1], swapped[at]
			add(swapped)
		}
	}
	reversed := slices.Clone(list)
	slices.Reverse(reversed)
	add(reversed)
	return altered
}

// otherRecords returns records that differ from r in one field.
func otherRecords(r impl.Record) []impl.Record {
	var list []impl.Record
	for _, n := range []int{1, -1, 1 << 32, 1 << 62} {
		list = append(list, impl.Record{Op: r.Op + n, Stamp: r.Stamp, Key: r.Key, Val: r.Val})
		list = append(list, impl.Record{Op: r.Op, Stamp: impl.Stamp{Epoch: r.Stamp.Epoch + n, Turn: r.Stamp.Turn}, Key: r.Key, Val: r.Val})
		list = append(list, impl.Record{Op: r.Op, Stamp: impl.Stamp{Epoch: r.Stamp.Epoch, Turn: r.Stamp.Turn + n}, Key: r.Key, Val: r.Val})
		list = append(list, impl.Record{Op: r.Op, Stamp: r.Stamp, Key: r.Key + n, Val: r.Val})
		list = append(list, impl.Record{Op: r.Op, Stamp: r.Stamp, Key: r.Key, Val: r.Val + n})
	}
	return list
}

func otherCellsOf(c impl.Cell) []impl.Cell {
	var list []impl.Cell
	for _, n := range []int{1, -1, 1 << 32, 1 << 62} {
		list = append(list, cellOf([4]int{c.Op + n, c.Epoch, c.Key, c.Val}), cellOf([4]int{c.Op, c.Epoch + n, c.Key, c.Val}))
		list = append(list, cellOf([4]int{c.Op, c.Epoch, c.Key + n, c.Val}), cellOf([4]int{c.Op, c.Epoch, c.Key, c.Val + n}))
	}
	return list
}

func otherNumbers(n int) []int    { return []int{n + 1, n - 1, -n, n + 1<<32, n + 1<<62} }
func otherFlags(flag bool) []bool { return []bool{!flag} }
func otherDones(d impl.Done) []impl.Done {
	return []impl.Done{{Epoch: d.Epoch, Capped: !d.Capped}, {Epoch: d.Epoch + 1, Capped: d.Capped}, {Epoch: d.Epoch - 1, Capped: d.Capped}, {Epoch: d.Epoch + 1<<32, Capped: d.Capped}}
}

// alteredWorkers returns workers that differ from fullWorker in one field, by the name of the field.
func alteredWorkers() map[string][]impl.Worker {
	w := fullWorker()
	workers := map[string][]impl.Worker{}
	add := func(field string, set func(other *impl.Worker)) {
		other := fullWorker()
		set(&other)
		workers[field] = append(workers[field], other)
	}
	for _, list := range alterations(w.Queue, otherRecords) {
		add("Queue", func(other *impl.Worker) { other.Queue = list })
	}
	for _, list := range alterations(w.Staged, otherRecords) {
		add("Staged", func(other *impl.Worker) { other.Staged = list })
	}
	for _, list := range alterations(w.Inputs, otherRecords) {
		add("Inputs", func(other *impl.Worker) { other.Inputs = list })
	}
	for _, list := range alterations(w.Cells, otherCellsOf) {
		add("Cells", func(other *impl.Worker) { other.Cells = list })
	}
	for _, list := range alterations(w.Sums, otherNumbers) {
		add("Sums", func(other *impl.Worker) { other.Sums = list })
	}
	for _, list := range alterations(w.Black, otherFlags) {
		add("Black", func(other *impl.Worker) { other.Black = list })
	}
	for _, list := range alterations(w.Caps, otherFlags) {
		add("Caps", func(other *impl.Worker) { other.Caps = list })
	}
	for _, list := range alterations(w.Dones, otherDones) {
		add("Dones", func(other *impl.Worker) { other.Dones = list })
	}
	return workers
}

func TestSameWorkerOfOneOtherField(t *testing.T) {
	checkSameWorker(t, "two full workers", fullWorker(), fullWorker(), true)
	fields := alteredWorkers()
	if len(fields) != 8 {
		t.Errorf("the workers differ in %d fields", len(fields))
	}
	for field, workers := range fields {
		for _, other := range workers {
			checkSameWorker(t, field, fullWorker(), other, false)
			checkSameWorker(t, field+", the worker itself", other, other, true)
		}
	}
}

// One field alone, in a worker that is empty otherwise.
func TestSameWorkerOfOneField(t *testing.T) {
	w := fullWorker()
	alone := []impl.Worker{
		{Queue: w.Queue}, {Staged: w.Queue}, {Inputs: w.Queue}, {Cells: w.Cells},
		{Sums: w.Sums}, {Black: w.Black}, {Caps: w.Black}, {Dones: w.Dones}, {},
		{Queue: make([]impl.Record, 1)}, {Staged: make([]impl.Record, 1)}, {Inputs: make([]impl.Record, 1)}, {Cells: make([]impl.Cell, 1)},
		{Sums: make([]int, 1)}, {Black: make([]bool, 1)}, {Caps: make([]bool, 1)}, {Dones: make([]impl.Done, 1)},
		{Queue: make([]impl.Record, 2)}, {Staged: make([]impl.Record, 2)}, {Inputs: make([]impl.Record, 2)}, {Cells: make([]impl.Cell, 2)},
		{Sums: make([]int, 2)}, {Black: make([]bool, 2)}, {Caps: make([]bool, 2)}, {Dones: make([]impl.Done, 2)},
	}
	for a := range alone {
		for b := range alone {
			checkSameWorker(t, fmt.Sprintf("workers %d and %d", a, b), alone[a], alone[b], a == b)
		}
	}
}

func TestSameWorkerOfNilAndEmpty(t *testing.T) {
	empty := impl.Worker{
		Queue: []impl.Record{}, Staged: []impl.Record{}, Inputs: []impl.Record{}, Cells: []impl.Cell{},
		Sums: []int{}, Black: []bool{}, Caps: []bool{}, Dones: []impl.Done{},
	}
	checkSameWorker(t, "the zero worker", impl.Worker{}, impl.Worker{}, true)
	checkSameWorker(t, "nil and empty", impl.Worker{}, empty, true)
	checkSameWorker(t, "new workers", impl.WorkerNew(nil), impl.WorkerNew([]impl.Record{}), true)
	checkSameWorker(t, "a new and a zero worker", impl.WorkerNew(nil), impl.Worker{}, false)
	checkSameWorker(t, "a new and a bare worker", impl.WorkerNew(nil), bareWorker(), true)
	checkSameWorker(t, "inputs in another order", impl.WorkerNew(ofEpochs(1, 1)), impl.WorkerNew([]impl.Record{ofEpochs(1, 1)[1], ofEpochs(1, 1)[0]}), false)
	for _, set := range []func(w *impl.Worker){
		func(w *impl.Worker) { w.Queue = nil }, func(w *impl.Worker) { w.Staged = nil }, func(w *impl.Worker) { w.Inputs = nil }, func(w *impl.Worker) { w.Cells = nil },
		func(w *impl.Worker) { w.Sums = nil }, func(w *impl.Worker) { w.Black = nil }, func(w *impl.Worker) { w.Caps = nil }, func(w *impl.Worker) { w.Dones = nil },
	} {
		some := empty
		set(&some)
		checkSameWorker(t, "one nil field", some, empty, true)
	}
}

func TestSameWorkerOfManyWorkers(t *testing.T) {
	random := rand.New(rand.NewSource(124))
	var workers []impl.Worker
	for range 100 {
		workers = append(workers, anyWorker(random, 3), strangeWorker(random))
	}
	workers = append(workers, impl.Worker{}, bareWorker(), fullWorker())
	texts := make([]string, len(workers))
	for at, w := range workers {
		texts[at] = textOf(w)
	}
	for a := range workers {
		for b := range workers {
			checkSameWorker(t, "two workers", workers[a], roomyWorker(workers[b], 1), texts[a] == texts[b])
		}
	}
}

// roomyWorker returns a copy of a worker with spare capacity behind each list: filled with elements that are valid if spare is 1, and that are not if it is 77.
func roomyWorker(w impl.Worker, spare int) impl.Worker {
	r := recordOf([5]int{0, spare, 0, spare, spare})
	return impl.Worker{
		Queue:  roomyList(w.Queue, r),
		Staged: roomyList(w.Staged, r),
		Inputs: roomyList(w.Inputs, r),
		Cells:  roomyList(w.Cells, cellOf([4]int{spare, spare, spare, spare})),
		Sums:   roomyList(w.Sums, spare),
		Black:  roomyList(w.Black, spare == 1),
		Caps:   roomyList(w.Caps, spare == 1),
		Dones:  roomyList(w.Dones, impl.Done{Epoch: spare, Capped: true}),
	}
}

// whole returns a list with what is behind it.
func whole[E any](list []E) []E {
	return list[:cap(list)]
}

// workerMemory writes a worker with everything behind its lists.
func workerMemory(w impl.Worker) string {
	return textOf(impl.Worker{
		Queue: whole(w.Queue), Staged: whole(w.Staged), Inputs: whole(w.Inputs), Cells: whole(w.Cells),
		Sums: whole(w.Sums), Black: whole(w.Black), Caps: whole(w.Caps), Dones: whole(w.Dones),
	})
}

// overwriteWorker changes all lists of a worker and what is behind them.
func overwriteWorker(w impl.Worker, mark int) {
	r := recordOf([5]int{mark, mark, mark, mark, mark})
	overwrite(w.Queue, r)
	overwrite(w.Staged, r)
	overwrite(w.Inputs, r)
	overwrite(w.Cells, cellOf([4]int{mark, mark, mark, mark}))
	overwrite(w.Sums, mark)
	overwrite(w.Black, true)
	overwrite(w.Caps, true)
	overwrite(w.Dones, impl.Done{Epoch: mark, Capped: true})
}

// workersForMemory returns workers, valid and not.
func workersForMemory() []impl.Worker {
	random := rand.New(rand.NewSource(125))
	workers := []impl.Worker{{}, bareWorker(), fullWorker()}
	for range 60 {
		workers = append(workers, anyWorker(random, 5), strangeWorker(random))
	}
	for _, list := range longRecordLists() {
		long := fullWorker()
		long.Queue, long.Staged, long.Inputs = list, list[:100%len(list)], list[:len(list)/2]
		workers = append(workers, long)
	}
	return workers
}

func TestWorkersDoNotChangeTheirLists(t *testing.T) {
	for _, w := range workersForMemory() {
		for _, spare := range []int{1, 77} {
			a, b := roomyWorker(w, spare), roomyWorker(w, spare)
			want := workerMemory(a)
			impl.WorkerOk(loopGraph(), a)
			overwriteWorker(impl.WorkerNew(a.Inputs), 55)
			overwriteWorker(impl.WorkerNew(a.Queue), 55)
			overwrite(impl.CountsAt(a), impl.Count{N: 55})
			for _, epoch := range epochsAround() {
				impl.WorkAt(a, epoch)
				impl.OpenAt(a, epoch)
				impl.PassiveAt(a, epoch)
				impl.IsDone(a, epoch)
			}
			impl.SameWorker(a, b)
			if workerMemory(a) != want || workerMemory(b) != want {
				t.Fatalf("the memory of %v was changed", w)
			}
		}
	}
}

func TestWorkerOkDoesNotChangeItsGraph(t *testing.T) {
	for _, g := range []impl.Graph{loopGraph(), doubleLoop(), loopAnd(10), {}, loopWith(1, impl.Node{})} {
		for _, spare := range spareNodes() {
			for _, spareOp := range []int{1, 77} {
				roomy := roomyGraph(g, spare, spareOp)
				want := memoryOf(roomy)
				for _, w := range workersForMemory()[:40] {
					if impl.WorkerOk(roomy, w) != plainWorkerOk(g, w) {
						t.Fatalf("WorkerOk(%v, %v) depends on what is behind the nodes", g, w)
					}
				}
				if memoryOf(roomy) != want {
					t.Fatalf("the memory of %v was changed", g)
				}
			}
		}
	}
	// The operator is that of a node that is behind the list, and no node of the graph.
	roomy := roomyGraph(sizedGraph(3), nodeOf(impl.OpOut, 0, 0), 1)
	checkWorkerOk(t, "a node behind the list", roomy, withRecords(bareWorker(), 0, recordsOf([5]int{3, 1, 0, 30, 5})), false)
}

func TestWorkersDoNotDependOnSpareCapacity(t *testing.T) {
	for _, w := range workersForMemory() {
		for _, spare := range []int{1, 77} {
			roomy := roomyWorker(w, spare)
			if got, want := impl.WorkerOk(loopGraph(), roomy), plainWorkerOk(loopGraph(), w); got != want {
				t.Fatalf("WorkerOk(.., %v) = %v, want %v", w, got, want)
			}
			checkEpochs(t, "spare capacity", roomy, append(epochsAround(), 77))
			checkCountsAt(t, "spare capacity", roomy, plainCountsAt(w))
			checkSameWorker(t, "spare capacity", roomy, w, true)
			checkSameWorker(t, "other spare capacity", roomy, roomyWorker(w, 78-spare), true)
			checkNew(t, "spare capacity", impl.WorkerNew(roomy.Inputs), w.Inputs)
		}
	}
}

// TestNewWorkersShareNoMemory changes one list of a new worker after the other, with what is behind it, and looks at all the others.
func TestNewWorkersShareNoMemory(t *testing.T) {
	mark := recordOf([5]int{88, 88, 88, 88, 88})
	for _, c := range workersForMemory() {
		checkNewMemory(t, "WorkerNew", c.Inputs, nil, spareRecord, mark, func(a []impl.Record, b []impl.Record) []impl.Record {
			return impl.WorkerNew(a).Inputs
		})
		other := impl.WorkerNew(c.Inputs)
		for list := range 8 {
			w := impl.WorkerNew(c.Inputs)
			overwriteList(w, list)
			for kept := range 8 {
				if kept != list && listText(w, kept) != listText(impl.WorkerNew(c.Inputs), kept) {
					t.Fatalf("the lists %d and %d of WorkerNew(%v) share memory", list, kept, c.Inputs)
				}
			}
		}
		checkNew(t, "another call", other, c.Inputs)
	}
}

// overwriteList appends to one list of a worker as far as its capacity goes, and changes its elements.
func overwriteList(w impl.Worker, list int) {
	mark := recordOf([5]int{88, 88, 88, 88, 88})
	switch list {
	case 0:
		overwrite(w.Queue, mark)
	case 1:
		overwrite(w.Staged, mark)
	case 2:
		overwrite(w.Inputs, mark)
	case 3:
		overwrite(w.Cells, cellOf([4]int{88, 88, 88, 88}))
	case 4:
		overwrite(w.Sums, 88)
	case 5:
		overwrite(w.Black, true)
	case 6:
		overwrite(w.Caps, true)
	case 7:
		overwrite(w.Dones, impl.Done{Epoch: 88, Capped: true})
	}
}

// listText writes one list of a worker with what is behind it.
func listText(w impl.Worker, list int) string {
	switch list {
	case 0:
		return textOf(whole(w.Queue))
	case 1:
		return textOf(whole(w.Staged))
	case 2:
		return textOf(whole(w.Inputs))
	case 3:
		return textOf(whole(w.Cells))
	case 4:
		return textOf(whole(w.Sums))
	case 5:
		return textOf(whole(w.Black))
	case 6:
		return textOf(whole(w.Caps))
	}
	return textOf(whole(w.Dones))
}

func TestCountsAtIsNewMemory(t *testing.T) {
	for _, w := range workersForMemory() {
		roomy := roomyWorker(w, 1)
		want := plainCountsAt(w)
		first, second := impl.CountsAt(roomy), impl.CountsAt(roomy)
		overwrite(second, impl.Count{Stamp: impl.Stamp{Epoch: 88, Turn: 88}, N: 88})
		overwriteWorker(roomy, 66)
		if !slices.Equal(first, want) {
			t.Fatalf("CountsAt(%v) changed later to %v, want %v", w, first, want)
		}
	}
}

// No call leaves anything behind: calls with another worker come between two equal ones.
func TestWorkersStayTheSame(t *testing.T) {
	results := func() string {
		w := fullWorker()
		text := textOf(impl.WorkerNew(ofEpochs(1, 2)))
		text += fmt.Sprint(impl.WorkerOk(loopGraph(), w), impl.WorkerOk(impl.Graph{}, w), impl.CountsAt(w), impl.SameWorker(w, fullWorker()))
		for epoch := -1; epoch <= 4; epoch++ {
			text += fmt.Sprint(impl.WorkAt(w, epoch), impl.OpenAt(w, epoch), impl.PassiveAt(w, epoch), impl.IsDone(w, epoch))
		}
		return text
	}
	first := results()
	other := impl.WorkerNew(ofEpochs(0, 0, 0))
	other.Queue, other.Dones = ofEpochs(3, 3), donesOf(3)
	overwriteWorker(impl.WorkerNew(ofEpochs(9)), 55)
	impl.WorkerOk(loopGraph(), impl.Worker{})
	impl.CountsAt(other)
	for epoch := -1; epoch <= 4; epoch++ {
		impl.WorkAt(other, epoch)
		impl.OpenAt(other, epoch)
		impl.PassiveAt(other, epoch)
		impl.IsDone(other, epoch)
	}
	impl.SameWorker(other, fullWorker())
	if again := results(); again != first {
		t.Errorf("the results changed from %s to %s", first, again)
	}
}

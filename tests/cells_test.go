package tests

import (
	"math"
	"math/rand"
	"slices"
	"testing"

	"loop.example/g00973/impl"
)

// cellOf builds a cell from its operator, epoch, key and value.
func cellOf(f [4]int) impl.Cell {
	return impl.Cell{Op: f[0], Epoch: f[1], Key: f[2], Val: f[3]}
}

func cellsOf(fours ...[4]int) []impl.Cell {
	var list []impl.Cell
	for _, f := range fours {
		list = append(list, cellOf(f))
	}
	return list
}

// valued returns cells of one operator, epoch and key with the given values.
func valued(vals ...int) []impl.Cell {
	var list []impl.Cell
	for _, v := range vals {
		list = append(list, impl.Cell{Op: 4, Epoch: 2, Key: 30, Val: v})
	}
	return list
}

// plainCellOrder compares the fields in the order in which the document names them.
func plainCellOrder(a impl.Cell, b impl.Cell) int {
	return slices.Compare([]int{a.Epoch, a.Op, a.Key, a.Val}, []int{b.Epoch, b.Op, b.Key, b.Val})
}

// plainCellsOk compares every cell with every later one.
func plainCellsOk(list []impl.Cell) bool {
	for at, a := range list {
		for _, b := range list[at+1:] {
			if plainCellOrder(a, b) >= 0 {
				return false
			}
		}
	}
	return true
}

func plainHasCell(list []impl.Cell, x impl.Cell) bool {
	for _, c := range list {
		if c == x {
			return true
		}
	}
	return false
}

func plainPutCell(list []impl.Cell, x impl.Cell) []impl.Cell {
	if plainHasCell(list, x) {
		return list
	}
	var longer []impl.Cell
	done := false
	for _, c := range list {
		if !done && plainCellOrder(c, x) != -1 {
			longer = append(longer, x)
			done = true
		}
		longer = append(longer, c)
	}
	if !done {
		longer = append(longer, x)
	}
	return longer
}

func plainVals(list []impl.Cell, op int, epoch int, key int) []int {
	var vals []int
	for _, c := range list {
		if [3]int{c.Op, c.Epoch, c.Key} == [3]int{op, epoch, key} {
			vals = append(vals, c.Val)
		}
	}
	return vals
}

func plainLeastOf(list []impl.Cell, op int, epoch int, key int) (int, bool) {
	vals := plainVals(list, op, epoch, key)
	if len(vals) == 0 {
		return 0, false
	}
	slices.Sort(vals)
	return vals[0], true
}

func plainRecall(kind int, list []impl.Cell, x impl.Cell) ([]impl.Cell, bool) {
	if kind == impl.OpNew {
		if plainHasCell(list, x) {
			return list, false
		}
		return plainPutCell(list, x), true
	}
	if kind != impl.OpMin && kind != impl.OpOut {
		return list, true
	}
	if least, ok := plainLeastOf(list, x.Op, x.Epoch, x.Key); ok && least <= x.Val {
		return list, false
	}
	var others []impl.Cell
	for _, c := range list {
		if len(plainVals([]impl.Cell{c}, x.Op, x.Epoch, x.Key)) == 0 {
			others = append(others, c)
		}
	}
	return plainPutCell(others, x), true
}

func plainCellsOf(list []impl.Cell, op int, epoch int) []impl.Cell {
	var kept []impl.Cell
	for _, c := range list {
		if [2]int{c.Op, c.Epoch} == [2]int{op, epoch} {
			kept = append(kept, c)
		}
	}
	return kept
}

// fewCells returns cells of which two share an operator, an epoch and a key with the first one, and one differs from it in each of these alone.
func fewCells() []impl.Cell {
	return cellsOf([4]int{1, 1, 1, 1}, [4]int{1, 1, 1, 0}, [4]int{1, 1, 1, 2}, [4]int{0, 1, 1, 1}, [4]int{1, 2, 1, 1}, [4]int{1, 1, 0, 1})
}

// shortCellLists returns every list of at most three cells from a few, in every order and with every duplicate.
func shortCellLists() [][]impl.Cell {
	lists := [][]impl.Cell{nil}
	for at := 0; at < len(lists) && len(lists[at]) < 3; at++ {
		for _, c := range fewCells() {
			lists = append(lists, append(slices.Clone(lists[at]), c))
		}
	}
	return lists
}

// anyCell returns a cell whose fields are chosen from the given numbers.
func anyCell(random *rand.Rand, numbers []int) impl.Cell {
	var f [4]int
	for field := range f {
		f[field] = numbers[random.Intn(len(numbers))]
	}
	return cellOf(f)
}

// cellNumbers returns the numbers that the fields of the cells in longer lists are chosen from: some that a record may have, and some at both ends of the integers.
func cellNumbers() [][]int {
	return [][]int{{0, 1, 2}, {0, 3, 7, 99, 999}, {-1, 0, 1}, {math.MinInt, math.MinInt + 1, -1, 0, math.MaxInt - 1, math.MaxInt}, {1, 1 + 1<<32}}
}

// longCellLists returns lists of many lengths, of which about half are valid.
func longCellLists() [][]impl.Cell {
	random := rand.New(rand.NewSource(9))
	lists := [][]impl.Cell{nil, {}}
	for turn := range 400 {
		numbers := cellNumbers()[turn%len(cellNumbers())]
		var list []impl.Cell
		for range random.Intn(40) {
			list = append(list, anyCell(random, numbers))
		}
		valid := slices.Clone(list)
		slices.SortFunc(valid, plainCellOrder)
		lists = append(lists, list, slices.Compact(valid))
	}
	return lists
}

func TestCellOrder(t *testing.T) {
	least, most := math.MinInt, math.MaxInt
	// In each case the first cell is the smaller one. The fields are Op, Epoch, Key, Val.
	cases := [][2][4]int{
		// The cells differ in exactly one field.
		{{3, 1, 3, 3}, {3, 2, 3, 3}},
		{{1, 3, 3, 3}, {2, 3, 3, 3}},
		{{3, 3, 1, 3}, {3, 3, 2, 3}},
		{{3, 3, 3, 1}, {3, 3, 3, 2}},
		// The fields of lower rank order them the other way.
		{{2, 1, 2, 2}, {1, 2, 1, 1}},
		{{1, 3, 2, 2}, {2, 3, 1, 1}},
		{{3, 3, 1, 2}, {3, 3, 2, 1}},
		// One field of lower rank does.
		{{7, 1, 3, 3}, {0, 2, 3, 3}},
		{{3, 1, 99, 3}, {3, 2, 0, 3}},
		{{3, 1, 3, 999}, {3, 2, 3, 0}},
		{{1, 3, 99, 3}, {2, 3, 0, 3}},
		{{1, 3, 3, 999}, {2, 3, 3, 0}},
		{{3, 3, 1, 999}, {3, 3, 2, 0}},
		// Negative numbers.
		{{3, -2, 3, 3}, {3, -1, 3, 3}},
		{{-2, 3, 3, 3}, {-1, 3, 3, 3}},
		{{3, 3, -2, 3}, {3, 3, -1, 3}},
		{{3, 3, 3, -2}, {3, 3, 3, -1}},
		{{3, -1, 3, 3}, {3, 0, 3, 3}},
		// Both ends of the integers, where a difference wraps around.
		{{3, least, 3, 3}, {3, most, 3, 3}},
		{{least, 3, 3, 3}, {most, 3, 3, 3}},
		{{3, 3, least, 3}, {3, 3, most, 3}},
		{{3, 3, 3, least}, {3, 3, 3, most}},
		{{3, least, 3, 3}, {3, least + 1, 3, 3}},
		{{most - 1, 3, 3, 3}, {most, 3, 3, 3}},
		{{most, least, most, most}, {least, most, least, least}},
		{{least, 3, most, most}, {most, 3, least, least}},
		{{3, 3, least, most}, {3, 3, most, least}},
	}
	for _, c := range cases {
		a, b := cellOf(c[0]), cellOf(c[1])
		for _, x := range []struct {
			a, b impl.Cell
			want int
		}{{a, b, -1}, {b, a, 1}, {a, a, 0}, {b, b, 0}} {
			if got := impl.CellOrder(x.a, x.b); got != x.want {
				t.Errorf("CellOrder(%v, %v) = %d, want %d", x.a, x.b, got, x.want)
			}
		}
	}
}

// gridCells returns the cells whose fields are chosen from the given numbers in every way.
func gridCells(numbers ...int) []impl.Cell {
	var list []impl.Cell
	for _, op := range numbers {
		for _, epoch := range numbers {
			for _, key := range numbers {
				for _, val := range numbers {
					list = append(list, impl.Cell{Op: op, Epoch: epoch, Key: key, Val: val})
				}
			}
		}
	}
	return list
}

func TestCellOrderOfManyPairs(t *testing.T) {
	for _, all := range [][]impl.Cell{gridCells(0, 1, 2), gridCells(math.MinInt, -1, 1, math.MaxInt)} {
		for _, a := range all {
			for _, b := range all {
				if got, want := impl.CellOrder(a, b), plainCellOrder(a, b); got != want {
					t.Fatalf("CellOrder(%v, %v) = %d, want %d", a, b, got, want)
				}
			}
		}
	}
}

func TestCellsOk(t *testing.T) {
	right := [][]impl.Cell{
		nil,
		{},
		cellsOf([4]int{4, 2, 30, 5}),
		cellsOf([4]int{-9, math.MinInt, 100, 1000}),
		// The cells differ in one field.
		cellsOf([4]int{1, 1, 1, 1}, [4]int{1, 2, 1, 1}),
		cellsOf([4]int{1, 1, 1, 1}, [4]int{2, 1, 1, 1}),
		cellsOf([4]int{1, 1, 1, 1}, [4]int{1, 1, 2, 1}),
		cellsOf([4]int{1, 1, 1, 1}, [4]int{1, 1, 1, 2}),
		// The fields of lower rank descend.
		cellsOf([4]int{2, 1, 2, 2}, [4]int{1, 2, 1, 1}),
		cellsOf([4]int{1, 1, 2, 2}, [4]int{2, 1, 1, 1}),
		cellsOf([4]int{1, 1, 1, 2}, [4]int{1, 1, 2, 1}),
		// The same operator, epoch and key with different values.
		valued(-3, 0, 5, 999),
		valued(math.MinInt, -1, 0, math.MaxInt),
		cellsOf([4]int{0, 0, 0, 0}, [4]int{0, 0, 0, 1}, [4]int{0, 0, 1, 0}, [4]int{1, 0, 0, 0}, [4]int{0, 1, 0, 0}, [4]int{0, 3, 0, 0}),
	}
	for _, list := range right {
		if !impl.CellsOk(list) {
			t.Errorf("CellsOk(%v) = false, want true", list)
		}
	}
	wrong := [][]impl.Cell{
		cellsOf([4]int{4, 2, 30, 5}, [4]int{4, 2, 30, 5}),
		cellsOf([4]int{0, 0, 0, 0}, [4]int{0, 0, 0, 0}),
		// Two cells that differ in one field.
		cellsOf([4]int{1, 2, 1, 1}, [4]int{1, 1, 1, 1}),
		cellsOf([4]int{2, 1, 1, 1}, [4]int{1, 1, 1, 1}),
		cellsOf([4]int{1, 1, 2, 1}, [4]int{1, 1, 1, 1}),
		cellsOf([4]int{1, 1, 1, 2}, [4]int{1, 1, 1, 1}),
		// The fields of lower rank ascend.
		cellsOf([4]int{1, 2, 1, 1}, [4]int{2, 1, 2, 2}),
		cellsOf([4]int{2, 1, 1, 1}, [4]int{1, 1, 2, 2}),
		cellsOf([4]int{1, 1, 2, 1}, [4]int{1, 1, 1, 2}),
		// Two equal cells at the first place, in the middle and at the last.
		valued(1, 1, 2, 3, 4), valued(1, 2, 2, 3, 4), valued(1, 2, 3, 3, 4), valued(1, 2, 3, 4, 4),
		// Two cells in the wrong order there.
		valued(2, 1, 3, 4, 5), valued(1, 3, 2, 4, 5), valued(1, 2, 4, 3, 5), valued(1, 2, 3, 5, 4),
		// One cell far from its place, and equal cells apart.
		valued(5, 1, 2, 3, 4), valued(2, 3, 4, 5, 1), valued(1, 2, 1), valued(1, 2, 3, 1),
		valued(math.MaxInt, math.MinInt),
		valued(5, 4, 3, 2, 1),
	}
	for _, list := range wrong {
		if impl.CellsOk(list) {
			t.Errorf("CellsOk(%v) = true, want false", list)
		}
	}
}

func TestCellsOkOfOneWrongPlace(t *testing.T) {
	var list []impl.Cell
	for _, c := range gridCells(0, 1, 2) {
		list = plainPutCell(list, c)
	}
	if !impl.CellsOk(list) {
		t.Fatalf("CellsOk(%v) = false, want true", list)
	}
	for at := 1; at < len(list); at++ {
		twice, swapped := slices.Clone(list), slices.Clone(list)
		twice[at-1] = twice[at]
		swapped[at-1], swapped[at] = swapped[at], swapped[at-1]
		if impl.CellsOk(twice) || impl.CellsOk(swapped) {
			t.Errorf("CellsOk of a list that is wrong at %d alone = true, want false", at)
		}
	}
}

func TestPutCell(t *testing.T) {
	cases := []struct {
		name    string
		list    []impl.Cell
		x       impl.Cell
		want    []impl.Cell
		invalid bool
	}{
		{name: "into nil", x: cellOf([4]int{4, 2, 30, 5}), want: valued(5)},
		{name: "into an empty list", list: []impl.Cell{}, x: cellOf([4]int{4, 2, 30, 5}), want: valued(5)},
		{name: "the zero cell into nil", want: []impl.Cell{{}}},
		{name: "at the start", list: valued(2, 4, 6), x: valued(1)[0], want: valued(1, 2, 4, 6)},
		{name: "in the middle", list: valued(2, 4, 6), x: valued(3)[0], want: valued(2, 3, 4, 6)},
		{name: "later in the middle", list: valued(2, 4, 6), x: valued(5)[0], want: valued(2, 4, 5, 6)},
		{name: "at the end", list: valued(2, 4, 6), x: valued(7)[0], want: valued(2, 4, 6, 7)},
		{name: "there at the start", list: valued(2, 4, 6), x: valued(2)[0], want: valued(2, 4, 6)},
		{name: "there in the middle", list: valued(2, 4, 6), x: valued(4)[0], want: valued(2, 4, 6)},
		{name: "there at the end", list: valued(2, 4, 6), x: valued(6)[0], want: valued(2, 4, 6)},
		{name: "there alone", list: valued(2), x: valued(2)[0], want: valued(2)},
		{name: "by its epoch", list: cellsOf([4]int{5, 1, 5, 5}, [4]int{5, 3, 5, 5}), x: cellOf([4]int{9, 2, 9, 9}), want: cellsOf([4]int{5, 1, 5, 5}, [4]int{9, 2, 9, 9}, [4]int{5, 3, 5, 5})},
		{name: "by its operator", list: cellsOf([4]int{1, 5, 5, 5}, [4]int{3, 5, 5, 5}), x: cellOf([4]int{2, 5, 9, 9}), want: cellsOf([4]int{1, 5, 5, 5}, [4]int{2, 5, 9, 9}, [4]int{3, 5, 5, 5})},
		{name: "by its key", list: cellsOf([4]int{5, 5, 1, 5}, [4]int{5, 5, 3, 5}), x: cellOf([4]int{5, 5, 2, 9}), want: cellsOf([4]int{5, 5, 1, 5}, [4]int{5, 5, 2, 9}, [4]int{5, 5, 3, 5})},
		{name: "negative", list: valued(-5, 5), x: valued(-1)[0], want: valued(-5, -1, 5)},
		{name: "the least integer", list: valued(-5, 5), x: valued(math.MinInt)[0], want: valued(math.MinInt, -5, 5)},
		{name: "the greatest integer", list: valued(-5, 5), x: valued(math.MaxInt)[0], want: valued(-5, 5, math.MaxInt)},
		{name: "between both ends", list: valued(math.MinInt, math.MaxInt), x: valued(0)[0], want: valued(math.MinInt, 0, math.MaxInt)},

		{name: "before the first that is not less", list: valued(1, 5, 1, 3), x: valued(2)[0], want: valued(1, 2, 5, 1, 3), invalid: true},
		{name: "before a first cell that is greater", list: valued(5, 3, 1), x: valued(4)[0], want: valued(4, 5, 3, 1), invalid: true},
		{name: "behind descending cells", list: valued(5, 3, 1), x: valued(6)[0], want: valued(5, 3, 1, 6), invalid: true},
		{name: "between equal cells", list: valued(1, 1, 3, 3), x: valued(2)[0], want: valued(1, 1, 2, 3, 3), invalid: true},
		{name: "there behind its place", list: valued(5, 1, 3), x: valued(3)[0], want: valued(5, 1, 3), invalid: true},
		{name: "there directly behind its place", list: valued(5, 3, 1), x: valued(3)[0], want: valued(5, 3, 1), invalid: true},
		{name: "there behind all others", list: valued(9, 8, 7, 6, 1), x: valued(1)[0], want: valued(9, 8, 7, 6, 1), invalid: true},
		{name: "there twice", list: valued(3, 1, 3), x: valued(3)[0], want: valued(3, 1, 3), invalid: true},
		{name: "there twice in a row", list: valued(1, 3, 3), x: valued(3)[0], want: valued(1, 3, 3), invalid: true},
	}
	for _, c := range cases {
		if impl.CellsOk(c.list) == c.invalid {
			t.Errorf("%s: CellsOk(%v) = %v", c.name, c.list, c.invalid)
		}
		if got := impl.PutCell(c.list, c.x); !slices.Equal(got, c.want) {
			t.Errorf("%s: PutCell(%v, %v) = %v, want %v", c.name, c.list, c.x, got, c.want)
		}
	}
}

func TestHasCell(t *testing.T) {
	x := cellOf([4]int{4, 2, 30, 5})
	// Each of the others differs from x in exactly one field.
	others := cellsOf([4]int{5, 2, 30, 5}, [4]int{3, 2, 30, 5}, [4]int{4, 3, 30, 5}, [4]int{4, 1, 30, 5}, [4]int{4, 2, 31, 5}, [4]int{4, 2, 29, 5}, [4]int{4, 2, 30, 6}, [4]int{4, 2, 30, 4},
		[4]int{4 + 1<<32, 2, 30, 5}, [4]int{4, 2 + 1<<32, 30, 5}, [4]int{4, 2, 30 + 1<<32, 5}, [4]int{4, 2, 30, 5 + 1<<32}, [4]int{-4, 2, 30, 5}, [4]int{4, -2, 30, 5}, [4]int{4, 2, -30, 5}, [4]int{4, 2, 30, -5})
	for _, other := range others {
		for _, list := range [][]impl.Cell{{other}, {other, other}} {
			if impl.HasCell(list, x) || !impl.HasCell(list, other) || impl.HasCell([]impl.Cell{x}, other) {
				t.Errorf("HasCell does not tell %v from %v", x, other)
			}
		}
	}
	if impl.HasCell(others, x) {
		t.Errorf("HasCell(%v, %v) = true, want false", others, x)
	}
	for at := 0; at <= len(others); at++ {
		if list := slices.Insert(slices.Clone(others), at, x); !impl.HasCell(list, x) {
			t.Errorf("HasCell(%v, %v) = false, want true", list, x)
		}
	}
	for _, list := range [][]impl.Cell{nil, {}} {
		if impl.HasCell(list, x) || impl.HasCell(list, impl.Cell{}) {
			t.Errorf("HasCell of a list without cells = true, want false")
		}
	}
}

func TestHasCellOfWrongLists(t *testing.T) {
	for _, vals := range [][]int{{9, 7, 5, 3, 1}, {5, 1, 9, 3, 7}, {9, 1, 3, 5, 7}, {3, 5, 7, 9, 1}, {1, 1, 1, 3, 3, 5, 7, 9, 9}, {1, 3, 9, 5, 7}} {
		list := valued(vals...)
		if impl.CellsOk(list) {
			t.Errorf("CellsOk(%v) = true, want false", list)
		}
		for n := range 11 {
			if got, want := impl.HasCell(list, valued(n)[0]), n%2 == 1; got != want {
				t.Errorf("HasCell(%v, %v) = %v, want %v", list, valued(n)[0], got, want)
			}
		}
	}
}

func TestLeastOf(t *testing.T) {
	least, most := math.MinInt, math.MaxInt
	// A zero result with false is wanted where there is no number.
	cases := []struct {
		list []impl.Cell
		want []int
	}{
		// No such cell.
		{nil, nil},
		{[]impl.Cell{}, nil},
		{[]impl.Cell{{}}, nil},
		{cellsOf([4]int{5, 3, 31, 7}), nil},
		// One such cell.
		{valued(5), []int{5}},
		{valued(0), []int{0}},
		{valued(-5), []int{-5}},
		{valued(least), []int{least}},
		{valued(most), []int{most}},
		// The least is the first, in the middle and the last.
		{valued(2, 5, 9), []int{2}},
		{valued(5, 2, 9), []int{2}},
		{valued(9, 5, 2), []int{2}},
		{valued(-9, -5, -2), []int{-9}},
		{valued(-5, -9, -2), []int{-9}},
		{valued(-2, -5, -9), []int{-9}},
		{valued(0, 1, 2), []int{0}},
		{valued(2, 1, 0), []int{0}},
		{valued(-1, 0, 1), []int{-1}},
		{valued(1, 0, -1), []int{-1}},
		{valued(3, 3), []int{3}},
		{valued(least, 0, most), []int{least}},
		{valued(most, 0, least), []int{least}},
		{valued(most, most-1), []int{most - 1}},
		// Only the operator, only the epoch or only the key differs.
		{cellsOf([4]int{5, 2, 30, 1}), nil},
		{cellsOf([4]int{3, 2, 30, 1}), nil},
		{cellsOf([4]int{4, 3, 30, 1}), nil},
		{cellsOf([4]int{4, 1, 30, 1}), nil},
		{cellsOf([4]int{4, 2, 31, 1}), nil},
		{cellsOf([4]int{4, 2, 29, 1}), nil},
		{cellsOf([4]int{-4, 2, 30, 1}, [4]int{4, -2, 30, 1}, [4]int{4, 2, -30, 1}), nil},
		{cellsOf([4]int{4 + 1<<32, 2, 30, 1}, [4]int{4, 2 + 1<<32, 30, 1}, [4]int{4, 2, 30 + 1<<32, 1}), nil},
		{cellsOf([4]int{5, 2, 30, 1}, [4]int{4, 3, 30, 1}, [4]int{4, 2, 31, 1}, [4]int{4, 2, 30, 8}), []int{8}},
		{cellsOf([4]int{4, 2, 30, 8}, [4]int{3, 2, 30, 1}, [4]int{4, 1, 30, 1}, [4]int{4, 2, 29, 1}), []int{8}},
		{cellsOf([4]int{3, 2, 30, 1}, [4]int{4, 2, 30, 8}, [4]int{4, 1, 30, 1}, [4]int{4, 2, 30, 6}, [4]int{4, 2, 29, 1}), []int{6}},
		// The same numbers in other fields.
		{cellsOf([4]int{2, 4, 30, 1}, [4]int{30, 2, 4, 1}, [4]int{4, 30, 2, 1}, [4]int{2, 30, 4, 1}, [4]int{30, 4, 2, 1}), nil},
	}
	for _, c := range cases {
		var want int
		if c.want != nil {
			want = c.want[0]
		}
		if got, ok := impl.LeastOf(c.list, 4, 2, 30); got != want || ok != (c.want != nil) {
			t.Errorf("LeastOf(%v, 4, 2, 30) = %d, %v, want %v", c.list, got, ok, c.want)
		}
	}
}

func checkRecall(t *testing.T, kind int, list []impl.Cell, x impl.Cell, want []impl.Cell, passes bool) {
	t.Helper()
	if got, ok := impl.Recall(kind, list, x); !slices.Equal(got, want) || ok != passes {
		t.Errorf("Recall(%s, %v, %v) = %v, %v, want %v, %v", impl.KindName(kind), list, x, got, ok, want, passes)
	}
}

// A recallCase is a list and a cell with the results of Recall for OpMin and OpOut, and for OpNew. A nil list stands for an unchanged one and false.
type recallCase struct {
	list         []impl.Cell
	x            impl.Cell
	least, fresh []impl.Cell
}

func (c recallCase) check(t *testing.T) {
	t.Helper()
	for kind, want := range map[int][]impl.Cell{impl.OpMin: c.least, impl.OpOut: c.least, impl.OpNew: c.fresh} {
		passes := want != nil
		if !passes {
			want = c.list
		}
		checkRecall(t, kind, c.list, c.x, want, passes)
	}
}

func TestRecall(t *testing.T) {
	x := valued(5)[0]
	// Cells of another operator, epoch or key, before and behind x.
	before, behind := cellsOf([4]int{4, 1, 30, 5}, [4]int{3, 2, 30, 5}, [4]int{4, 2, 29, 5}), cellsOf([4]int{4, 2, 31, 5}, [4]int{5, 2, 30, 5}, [4]int{4, 3, 30, 5})
	among := func(list []impl.Cell) []impl.Cell { return slices.Concat(before, list, behind) }
	cases := []recallCase{
		{nil, x, valued(5), valued(5)},
		{[]impl.Cell{}, x, valued(5), valued(5)},
		// One cell whose value is less, equal and greater.
		{valued(4), x, nil, valued(4, 5)},
		{valued(5), x, nil, nil},
		{valued(6), x, valued(5), valued(5, 6)},
		{valued(-1), x, nil, valued(-1, 5)},
		{valued(0), x, nil, valued(0, 5)},
		{valued(999), x, valued(5), valued(5, 999)},
		{valued(math.MinInt), x, nil, valued(math.MinInt, 5)},
		{valued(math.MaxInt), x, valued(5), valued(5, math.MaxInt)},
		// Several.
		{valued(6, 7, 8), x, valued(5), valued(5, 6, 7, 8)},
		{valued(4, 6, 8), x, nil, valued(4, 5, 6, 8)},
		{valued(2, 3, 4), x, nil, valued(2, 3, 4, 5)},
		{valued(5, 6, 7), x, nil, nil},
		{valued(3, 5, 7), x, nil, nil},
		{valued(3, 4, 5), x, nil, nil},
		// Cells of another operator, epoch or key stay.
		{among(nil), x, among(valued(5)), among(valued(5))},
		{among(valued(4)), x, nil, among(valued(4, 5))},
		{among(valued(5)), x, nil, nil},
		{among(valued(6)), x, among(valued(5)), among(valued(5, 6))},
		{among(valued(6, 7, 8)), x, among(valued(5)), among(valued(5, 6, 7, 8))},
		{among(valued(4, 7, 8)), x, nil, among(valued(4, 5, 7, 8))},
		// The least is not the first.
		{valued(8, 7, 6), x, valued(5), valued(5, 8, 7, 6)},
		{valued(8, 4, 6), x, nil, valued(5, 8, 4, 6)},
		{valued(8, 6, 5), x, nil, nil},
		{valued(6, 6, 7, 6), x, valued(5), valued(5, 6, 6, 7, 6)},
		// Negative values, and the zero cell.
		{valued(-5), valued(-6)[0], valued(-6), valued(-6, -5)},
		{valued(-5), valued(-5)[0], nil, nil},
		{valued(-5), valued(-4)[0], nil, valued(-5, -4)},
		{valued(math.MaxInt), valued(math.MinInt)[0], valued(math.MinInt), valued(math.MinInt, math.MaxInt)},
		{valued(math.MinInt), valued(math.MaxInt)[0], nil, valued(math.MinInt, math.MaxInt)},
		{nil, impl.Cell{}, []impl.Cell{{}}, []impl.Cell{{}}},
		{[]impl.Cell{{}}, impl.Cell{}, nil, nil},
	}
	for _, c := range cases {
		c.check(t)
	}
}

func TestRecallOfOneOtherField(t *testing.T) {
	x := valued(5)[0]
	// A lesser and a greater value in another operator, epoch or key do not matter.
	for _, other := range cellsOf([4]int{3, 2, 30, 1}, [4]int{3, 2, 30, 5}, [4]int{3, 2, 30, 9}, [4]int{4, 1, 30, 1}, [4]int{4, 1, 30, 5}, [4]int{4, 1, 30, 9}, [4]int{4, 2, 29, 1}, [4]int{4, 2, 29, 5}, [4]int{4, 2, 29, 9}) {
		recallCase{[]impl.Cell{other}, x, []impl.Cell{other, x}, []impl.Cell{other, x}}.check(t)
		recallCase{[]impl.Cell{other, valued(6)[0]}, x, []impl.Cell{other, x}, append([]impl.Cell{other, x}, valued(6)...)}.check(t)
	}
	for _, other := range cellsOf([4]int{5, 2, 30, 1}, [4]int{5, 2, 30, 5}, [4]int{5, 2, 30, 9}, [4]int{4, 3, 30, 1}, [4]int{4, 3, 30, 5}, [4]int{4, 3, 30, 9}, [4]int{4, 2, 31, 1}, [4]int{4, 2, 31, 5}, [4]int{4, 2, 31, 9}) {
		recallCase{[]impl.Cell{other}, x, []impl.Cell{x, other}, []impl.Cell{x, other}}.check(t)
		recallCase{append(valued(6), other), x, []impl.Cell{x, other}, slices.Concat(valued(5, 6), []impl.Cell{other})}.check(t)
	}
}

func TestRecallOfWrongLists(t *testing.T) {
	a, b := cellOf([4]int{1, 3, 1, 1}), cellOf([4]int{7, 0, 7, 7})
	x := valued(5)
	between := func(lists ...[]impl.Cell) []impl.Cell { return slices.Concat(lists...) }
	ofA, ofB := []impl.Cell{a}, []impl.Cell{b}
	cases := []recallCase{
		// x is inserted before the first cell that is not less, among those that are left.
		{between(valued(9), ofA, valued(8), ofB, valued(7)), x[0], between(x, ofA, ofB), between(x, valued(9), ofA, valued(8), ofB, valued(7))},
		{between(ofB, valued(9), ofA, ofB), x[0], between(ofB, x, ofA, ofB), between(ofB, x, valued(9), ofA, ofB)},
		{between(ofA, ofB), x[0], between(x, ofA, ofB), between(x, ofA, ofB)},
		{between(ofB, ofB), x[0], between(ofB, ofB, x), between(ofB, ofB, x)},
		{between(valued(9), ofB, valued(8)), x[0], between(ofB, x), between(x, valued(9), ofB, valued(8))},
		// A cell that is there stays where it is, and so do all others.
		{between(ofA, valued(9), x, ofB), x[0], nil, nil},
		{between(valued(9), ofA, ofA, valued(4)), x[0], nil, between(x, valued(9), ofA, ofA, valued(4))},
		{between(x, x), x[0], nil, nil},
	}
	for _, c := range cases {
		if impl.CellsOk(c.list) {
			t.Errorf("CellsOk(%v) = true, want false", c.list)
		}
		c.check(t)
	}
}

func TestRecallOfOtherKinds(t *testing.T) {
	kinds := append(strangeKinds(), impl.OpIn, impl.OpAdd, impl.OpKeep, impl.OpMove, impl.OpBack)
	lists := [][]impl.Cell{nil, {}, valued(4), valued(5), valued(6), valued(4, 5, 6), valued(6, 5, 5), cellsOf([4]int{1, 1, 1, 1}, [4]int{2, 1, 1, 1})}
	for _, kind := range kinds {
		for _, list := range lists {
			for _, x := range append(valued(5, 3, 9), impl.Cell{}) {
				checkRecall(t, kind, list, x, list, true)
			}
		}
	}
}

func TestCellsOf(t *testing.T) {
	list := cellsOf([4]int{4, 1, 7, 8}, [4]int{3, 2, 1, 1}, [4]int{4, 2, 0, 5}, [4]int{4, 2, 30, 1}, [4]int{4, 2, 30, 9}, [4]int{5, 2, 1, 1}, [4]int{4, 3, 2, 2}, [4]int{2, 4, 2, 2})
	mixed := cellsOf([4]int{4, 2, 30, 9}, [4]int{2, 4, 1, 1}, [4]int{4, 2, 30, 1}, [4]int{4, 2, 30, 9}, [4]int{-4, 2, 1, 1}, [4]int{4, -2, 1, 1}, [4]int{4, 2, -1, -1}, [4]int{math.MinInt, math.MaxInt, 1, 1})
	cases := []struct {
		list      []impl.Cell
		op, epoch int
		want      []impl.Cell
	}{
		{nil, 4, 2, nil},
		{[]impl.Cell{}, 4, 2, nil},
		{nil, 0, 0, nil},
		{[]impl.Cell{{}}, 0, 0, []impl.Cell{{}}},
		// Several, one and none.
		{list, 4, 2, cellsOf([4]int{4, 2, 0, 5}, [4]int{4, 2, 30, 1}, [4]int{4, 2, 30, 9})},
		{list, 4, 1, cellsOf([4]int{4, 1, 7, 8})},
		{list, 3, 2, cellsOf([4]int{3, 2, 1, 1})},
		{list, 2, 4, cellsOf([4]int{2, 4, 2, 2})},
		{list, 4, 0, nil},
		{list, 6, 2, nil},
		{list, 3, 1, nil},
		{list, 30, 9, nil},
		{list, 7, 8, nil},
		{list, 4, 4, nil},
		{list, 2, 2, nil},
		{list, -4, -2, nil},
		{list, 4 + 1<<32, 2, nil},
		{list, 4, 2 + 1<<32, nil},
		// All of them.
		{valued(1, 2, 3), 4, 2, valued(1, 2, 3)},
		// A list that is not valid: in its order, and a cell twice.
		{mixed, 4, 2, cellsOf([4]int{4, 2, 30, 9}, [4]int{4, 2, 30, 1}, [4]int{4, 2, 30, 9}, [4]int{4, 2, -1, -1})},
		{mixed, -4, 2, cellsOf([4]int{-4, 2, 1, 1})},
		{mixed, 4, -2, cellsOf([4]int{4, -2, 1, 1})},
		{mixed, math.MinInt, math.MaxInt, cellsOf([4]int{math.MinInt, math.MaxInt, 1, 1})},
		{mixed, math.MaxInt, math.MinInt, nil},
	}
	for _, c := range cases {
		if got := impl.CellsOf(c.list, c.op, c.epoch); !slices.Equal(got, c.want) {
			t.Errorf("CellsOf(%v, %d, %d) = %v, want %v", c.list, c.op, c.epoch, got, c.want)
		}
	}
}

// checkLikePlain compares every function at a list and a cell with its plain version.
func checkLikePlain(t *testing.T, list []impl.Cell, x impl.Cell) {
	t.Helper()
	if got, want := impl.CellsOk(list), plainCellsOk(list); got != want {
		t.Fatalf("CellsOk(%v) = %v, want %v", list, got, want)
	}
	if got, want := impl.HasCell(list, x), plainHasCell(list, x); got != want {
		t.Fatalf("HasCell(%v, %v) = %v, want %v", list, x, got, want)
	}
	if got, want := impl.PutCell(list, x), plainPutCell(list, x); !slices.Equal(got, want) {
		t.Fatalf("PutCell(%v, %v) = %v, want %v", list, x, got, want)
	}
	least, ok := impl.LeastOf(list, x.Op, x.Epoch, x.Key)
	if want, is := plainLeastOf(list, x.Op, x.Epoch, x.Key); least != want || ok != is {
		t.Fatalf("LeastOf(%v, %d, %d, %d) = %d, %v, want %d, %v", list, x.Op, x.Epoch, x.Key, least, ok, want, is)
	}
	if got, want := impl.CellsOf(list, x.Op, x.Epoch), plainCellsOf(list, x.Op, x.Epoch); !slices.Equal(got, want) {
		t.Fatalf("CellsOf(%v, %d, %d) = %v, want %v", list, x.Op, x.Epoch, got, want)
	}
	for kind := 0; kind <= 9; kind++ {
		want, passes := plainRecall(kind, list, x)
		checkRecall(t, kind, list, x, want, passes)
	}
}

func TestCellsOfShortLists(t *testing.T) {
	for _, list := range shortCellLists() {
		for _, x := range append(fewCells(), cellOf([4]int{1, 1, 1, -1}), cellOf([4]int{1, 1, 1, 3}), impl.Cell{}) {
			checkLikePlain(t, list, x)
		}
	}
}

func TestCellsOfLongLists(t *testing.T) {
	random := rand.New(rand.NewSource(90))
	for _, list := range longCellLists() {
		for _, numbers := range cellNumbers() {
			checkLikePlain(t, list, anyCell(random, numbers))
		}
		for _, c := range list {
			checkLikePlain(t, list, c)
			c.Val = []int{-1, 0, 1, 2, 50, 1000}[random.Intn(6)]
			checkLikePlain(t, list, c)
		}
	}
}

// inOrderOnce returns the cells in order, each once.
func inOrderOnce(cells []impl.Cell) []impl.Cell {
	list := slices.Clone(cells)
	slices.SortFunc(list, plainCellOrder)
	return slices.Compact(list)
}

// leastCells returns, in order, the cell with the smallest value of each operator, epoch and key.
func leastCells(cells []impl.Cell) []impl.Cell {
	var list []impl.Cell
	for _, c := range inOrderOnce(cells) {
		if last := len(list) - 1; last < 0 || len(plainVals(list[last:], c.Op, c.Epoch, c.Key)) == 0 {
			list = append(list, c)
		}
	}
	return list
}

// checkBuilt puts cells into an empty list one after the other, and checks it after each of them.
func checkBuilt(t *testing.T, cells []impl.Cell) {
	t.Helper()
	var all, least, out, fresh []impl.Cell
	for at, x := range cells {
		before, now := cells[:at], cells[:at+1]
		var beats, seen, differs bool
		old, found := plainLeastOf(before, x.Op, x.Epoch, x.Key)
		all = impl.PutCell(all, x)
		least, beats = impl.Recall(impl.OpMin, least, x)
		out, seen = impl.Recall(impl.OpOut, out, x)
		fresh, differs = impl.Recall(impl.OpNew, fresh, x)
		if lesser := !found || x.Val < old; beats != lesser || seen != lesser || differs == plainHasCell(before, x) {
			t.Fatalf("after %v, Recall of %v passes %v, %v, %v", before, x, beats, seen, differs)
		}
		if !slices.Equal(all, inOrderOnce(now)) || !slices.Equal(fresh, all) || !slices.Equal(least, leastCells(now)) || !slices.Equal(out, least) {
			t.Fatalf("%v built %v, %v, %v, %v", now, all, least, out, fresh)
		}
		if !impl.CellsOk(all) || !impl.CellsOk(least) || !impl.CellsOk(out) || !impl.CellsOk(fresh) {
			t.Fatalf("%v built a list that is not valid: %v, %v, %v, %v", now, all, least, out, fresh)
		}
		if val, ok := impl.LeastOf(least, x.Op, x.Epoch, x.Key); !ok || val != plainVals(leastCells(now), x.Op, x.Epoch, x.Key)[0] {
			t.Fatalf("after %v, LeastOf is %d, %v at %v", now, val, ok, x)
		}
	}
}

// eachOrder visits every order of the cells behind the first ones.
func eachOrder(cells []impl.Cell, first int, visit func(cells []impl.Cell)) {
	if first == len(cells) {
		visit(cells)
		return
	}
	for at := first; at < len(cells); at++ {
		other := slices.Clone(cells)
		other[first], other[at] = other[at], other[first]
		eachOrder(other, first+1, visit)
	}
}

func TestCellsAreInOrderWhateverTheOrderOfTheirComing(t *testing.T) {
	sets := [][]impl.Cell{
		append(fewCells(), fewCells()[0]),
		valued(3, 1, -2, 0, 2, 1),
		valued(math.MaxInt, 0, -1, math.MinInt, 1),
		cellsOf([4]int{4, 2, 30, 5}, [4]int{4, 2, 31, 3}, [4]int{4, 2, 30, 3}, [4]int{4, 2, 31, 5}, [4]int{4, 1, 30, 3}, [4]int{4, 1, 30, 5}),
		cellsOf([4]int{7, 0, 99, 999}, [4]int{0, 3, 0, 0}, [4]int{7, 0, 99, 0}, [4]int{0, 3, 0, 999}, [4]int{3, 0, 99, 999}),
	}
	for _, cells := range sets {
		eachOrder(cells, 0, func(cells []impl.Cell) { checkBuilt(t, cells) })
	}
}

func TestCellsAreInOrderAfterAnySequence(t *testing.T) {
	for _, list := range shortCellLists() {
		for _, more := range fewCells() {
			checkBuilt(t, slices.Concat(list, []impl.Cell{more}, list[:min(1, len(list))]))
		}
	}
	for _, list := range longCellLists() {
		checkBuilt(t, list)
		slices.Reverse(list)
		checkBuilt(t, list)
	}
}

// A valid list stays valid whatever cell is put into it.
func TestValidCellsStayValid(t *testing.T) {
	for _, list := range append(shortCellLists(), longCellLists()...) {
		if !impl.CellsOk(list) {
			continue
		}
		for _, x := range slices.Concat(fewCells(), list, valued(5), []impl.Cell{{}}) {
			if put := impl.PutCell(list, x); !impl.CellsOk(put) || !impl.HasCell(put, x) {
				t.Fatalf("PutCell(%v, %v) = %v", list, x, put)
			}
			for kind := 0; kind <= 9; kind++ {
				if after, _ := impl.Recall(kind, list, x); !impl.CellsOk(after) {
					t.Fatalf("Recall(%s, %v, %v) = %v, which is not valid", impl.KindName(kind), list, x, after)
				}
			}
		}
	}
}

// spareCells are what the capacity behind a list holds. They share the operator and the epoch of the cells that the calls below are about, so that a function which reads them is found out too.
func spareCells() []impl.Cell {
	return append(valued(-7, 5, 700), cellOf([4]int{9, 9, 9, 9}))
}

func cellListsForMemory() [][]impl.Cell {
	lists := [][]impl.Cell{
		nil,
		{},
		valued(5), valued(4), valued(6),
		valued(1, 5, 9), valued(6, 7, 8), valued(7, 9, 6), valued(9, 5, 1), valued(5, 5),
		// The cells of x are first, in between and last.
		append(valued(6, 7), cellsOf([4]int{5, 2, 1, 1}, [4]int{1, 3, 1, 1})...),
		slices.Concat(cellsOf([4]int{5, 1, 1, 1}), valued(6, 7), cellsOf([4]int{1, 3, 1, 1})),
		append(cellsOf([4]int{5, 0, 1, 1}, [4]int{1, 1, 1, 1}), valued(6, 7)...),
		slices.Concat(valued(9), cellsOf([4]int{5, 0, 1, 1}), valued(8), cellsOf([4]int{1, 1, 1, 1}), valued(6)),
		cellsOf([4]int{1, 1, 1, 1}, [4]int{7, 3, 1, 1}),
		cellsOf([4]int{7, 3, 1, 1}, [4]int{1, 1, 1, 1}),
	}
	return append(lists, longCellLists()[20:30]...)
}

func TestCellsDoNotChangeTheirLists(t *testing.T) {
	x := valued(5)[0]
	calls := map[string]func(a []impl.Cell, b []impl.Cell){
		"CellsOk": func(a []impl.Cell, b []impl.Cell) { impl.CellsOk(a) },
		"PutCell": func(a []impl.Cell, b []impl.Cell) { impl.PutCell(a, x) },
		"HasCell": func(a []impl.Cell, b []impl.Cell) { impl.HasCell(a, x) },
		"LeastOf": func(a []impl.Cell, b []impl.Cell) { impl.LeastOf(a, 4, 2, 30) },
		"CellsOf": func(a []impl.Cell, b []impl.Cell) { impl.CellsOf(a, 4, 2) },
		"Recall": func(a []impl.Cell, b []impl.Cell) {
			for kind := 0; kind <= 9; kind++ {
				impl.Recall(kind, a, x)
			}
		},
	}
	for _, list := range cellListsForMemory() {
		for _, spare := range spareCells() {
			for name, call := range calls {
				checkUnchanged(t, name, list, nil, spare, call)
			}
		}
	}
}

func TestCellsShareNoMemoryWithTheirLists(t *testing.T) {
	mark := cellOf([4]int{77, 77, 77, 77})
	for _, list := range cellListsForMemory() {
		for _, spare := range spareCells() {
			for _, x := range append(valued(5), list...) {
				results := map[string]func(a []impl.Cell, b []impl.Cell) []impl.Cell{
					"PutCell": func(a []impl.Cell, b []impl.Cell) []impl.Cell { return impl.PutCell(a, x) },
					"CellsOf": func(a []impl.Cell, b []impl.Cell) []impl.Cell { return impl.CellsOf(a, x.Op, x.Epoch) },
				}
				for kind := 0; kind <= 9; kind++ {
					results["Recall of "+impl.KindName(kind)] = func(a []impl.Cell, b []impl.Cell) []impl.Cell {
						after, _ := impl.Recall(kind, a, x)
						return after
					}
				}
				for name, of := range results {
					checkNewMemory(t, name, list, nil, spare, mark, of)
				}
			}
		}
	}
}

// The spare capacity behind a list holds no cells of it, be they all the same or the rest of a longer list.
func TestCellsDoNotDependOnSpareCapacity(t *testing.T) {
	for _, list := range cellListsForMemory() {
		for _, spare := range spareCells() {
			roomy := roomyList(list, spare)
			for _, x := range append(spareCells(), list...) {
				checkLikePlain(t, roomy, x)
			}
		}
		for at := range list {
			for _, x := range append(spareCells(), list...) {
				checkLikePlain(t, list[:at], x)
			}
		}
	}
}

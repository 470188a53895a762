package tests

import (
	"math"
	"slices"
	"testing"

	"loop.example/g00973/impl"
)

// countsOf builds a table from triples of an epoch, a turn and a count.
func countsOf(triples ...[3]int) []impl.Count {
	var table []impl.Count
	for _, x := range triples {
		table = append(table, impl.Count{Stamp: impl.Stamp{Epoch: x[0], Turn: x[1]}, N: x[2]})
	}
	return table
}

// fewStamps are the stamps of the tables of someTables, in ascending order; the last one is above the second, and no other pair is comparable.
func fewStamps() []impl.Stamp {
	return stampsOf([2]int{0, 3}, [2]int{1, 0}, [2]int{2, 1})
}

// someTables returns the valid tables with every choice of a few counts, or none, at each of fewStamps.
func someTables() [][]impl.Count {
	tables := [][]impl.Count{nil}
	for _, s := range fewStamps() {
		var longer [][]impl.Count
		for _, table := range tables {
			longer = append(longer, table)
			for _, n := range []int{-1000000, -2, 1, 2, 1000000} {
				longer = append(longer, append(slices.Clone(table), impl.Count{Stamp: s, N: n}))
			}
		}
		tables = longer
	}
	return tables
}

// fullTable returns the table that has every valid stamp, with counts of both signs.
func fullTable() []impl.Count {
	var table []impl.Count
	for epoch := range 4 {
		for turn := range 7 {
			n := 5*epoch - 3*turn
			if n == 0 {
				n = 100
			}
			table = append(table, impl.Count{Stamp: impl.Stamp{Epoch: epoch, Turn: turn}, N: n})
		}
	}
	return table
}

// wrongTables returns tables that are not valid, each for one reason.
func wrongTables() [][]impl.Count {
	return [][]impl.Count{
		// A stamp that is not valid.
		countsOf([3]int{4, 0, 1}),
		countsOf([3]int{0, 7, 1}),
		countsOf([3]int{-1, 0, 1}),
		countsOf([3]int{0, -1, 1}),
		countsOf([3]int{-1, 0, 1}, [3]int{1, 0, 1}, [3]int{2, 0, 1}),
		countsOf([3]int{0, 0, 1}, [3]int{0, 7, 1}, [3]int{2, 0, 1}),
		countsOf([3]int{0, 0, 1}, [3]int{1, 0, 1}, [3]int{4, 0, 1}),
		countsOf([3]int{math.MinInt, 0, 1}, [3]int{math.MaxInt, 0, 1}),
		// A stamp twice.
		countsOf([3]int{1, 1, 2}, [3]int{1, 1, 2}),
		countsOf([3]int{1, 1, 2}, [3]int{1, 1, -2}),
		countsOf([3]int{1, 1, 3}, [3]int{1, 1, 5}, [3]int{2, 0, 1}),
		countsOf([3]int{0, 0, 1}, [3]int{1, 1, 3}, [3]int{1, 1, 5}),
		// Another order.
		countsOf([3]int{1, 1, 2}, [3]int{1, 0, 2}),
		countsOf([3]int{2, 0, 2}, [3]int{1, 6, 2}),
		countsOf([3]int{0, 0, 1}, [3]int{2, 0, 2}, [3]int{1, 0, 3}),
		countsOf([3]int{1, 0, 1}, [3]int{0, 0, 2}, [3]int{2, 0, 3}),
		// A count of 0.
		countsOf([3]int{0, 0, 0}),
		countsOf([3]int{0, 0, 0}, [3]int{1, 0, 1}),
		countsOf([3]int{0, 0, 1}, [3]int{1, 0, 0}, [3]int{2, 0, 1}),
		countsOf([3]int{0, 0, 1}, [3]int{1, 0, 0}),
		// A count out of range.
		countsOf([3]int{0, 0, 1000001}),
		countsOf([3]int{0, 0, -1000001}),
		countsOf([3]int{0, 0, 1000001}, [3]int{1, 0, 1}),
		countsOf([3]int{0, 0, 1}, [3]int{1, 0, -1000001}),
		countsOf([3]int{0, 0, 1}, [3]int{1, 0, 1000001}, [3]int{2, 0, 1}),
		countsOf([3]int{0, 0, math.MaxInt}),
		countsOf([3]int{0, 0, math.MinInt}),
	}
}

func before(a impl.Stamp, b impl.Stamp) bool {
	return a.Epoch < b.Epoch || a.Epoch == b.Epoch && a.Turn < b.Turn
}

func validStamp(s impl.Stamp) bool {
	return s.Epoch >= 0 && s.Epoch <= 3 && s.Turn >= 0 && s.Turn <= 6
}

// plainAdjust follows the words of the document for a valid table, without a map.
func plainAdjust(table []impl.Count, s impl.Stamp, n int) ([]impl.Count, bool) {
	if !validStamp(s) || n < -2000000 || n > 2000000 {
		return table, false
	}
	at := 0
	for at < len(table) && before(table[at].Stamp, s) {
		at++
	}
	sum, rest := n, table[at:]
	if len(rest) > 0 && rest[0].Stamp == s {
		sum, rest = sum+rest[0].N, rest[1:]
	}
	if sum < -1000000 || sum > 1000000 {
		return table, false
	}
	changed := slices.Clone(table[:at])
	if sum != 0 {
		changed = append(changed, impl.Count{Stamp: s, N: sum})
	}
	return append(changed, rest...), true
}

// plainAdd follows the words of the document for valid tables.
func plainAdd(a []impl.Count, b []impl.Count) ([]impl.Count, bool) {
	sum := a
	for _, c := range b {
		changed, ok := plainAdjust(sum, c.Stamp, c.N)
		if !ok {
			return a, false
		}
		sum = changed
	}
	return sum, true
}

func negated(table []impl.Count) []impl.Count {
	var other []impl.Count
	for _, c := range table {
		other = append(other, impl.Count{Stamp: c.Stamp, N: -c.N})
	}
	return other
}

func TestCountsOk(t *testing.T) {
	right := append(someTables(),
		[]impl.Count{},
		fullTable(),
		countsOf([3]int{0, 0, 1}),
		countsOf([3]int{3, 6, -1}),
		countsOf([3]int{0, 0, 1000000}, [3]int{0, 1, -1000000}),
		countsOf([3]int{0, 6, 1}, [3]int{1, 0, 1}),
		countsOf([3]int{0, 6, 1}, [3]int{3, 0, 1}, [3]int{3, 6, 1}),
	)
	for _, table := range right {
		if !impl.CountsOk(table) {
			t.Errorf("CountsOk(%v) = false, want true", table)
		}
	}
	for _, table := range wrongTables() {
		if impl.CountsOk(table) {
			t.Errorf("CountsOk(%v) = true, want false", table)
		}
	}
}

func TestCountsOkOfEveryPair(t *testing.T) {
	for _, a := range allStamps() {
		for _, b := range allStamps() {
			table := []impl.Count{{Stamp: a, N: 1}, {Stamp: b, N: -1}}
			want := validStamp(a) && validStamp(b) && before(a, b)
			if got := impl.CountsOk(table); got != want {
				t.Fatalf("CountsOk(%v) = %v, want %v", table, got, want)
			}
		}
	}
}

func TestCountAt(t *testing.T) {
	table := countsOf([3]int{0, 2, 4}, [3]int{1, 0, -7}, [3]int{3, 6, 1000000})
	twice := countsOf([3]int{2, 0, 1}, [3]int{1, 1, 3}, [3]int{1, 1, 5}, [3]int{2, 0, 9})
	cases := []struct {
		table []impl.Count
		s     impl.Stamp
		want  int
	}{
		{nil, impl.Stamp{}, 0},
		{[]impl.Count{}, impl.Stamp{Epoch: 1}, 0},
		{table, impl.Stamp{Epoch: 0, Turn: 2}, 4},
		{table, impl.Stamp{Epoch: 1, Turn: 0}, -7},
		{table, impl.Stamp{Epoch: 3, Turn: 6}, 1000000},
		// Stamps that are not there: before, between and behind the others, and with one number of another.
		{table, impl.Stamp{}, 0},
		{table, impl.Stamp{Epoch: 0, Turn: 6}, 0},
		{table, impl.Stamp{Epoch: 1, Turn: 2}, 0},
		{table, impl.Stamp{Epoch: 3, Turn: 0}, 0},
		{countsOf([3]int{0, 2, 4}), impl.Stamp{Epoch: 3, Turn: 6}, 0},
		{table, impl.Stamp{Epoch: -1, Turn: 0}, 0},
		{table, impl.Stamp{Epoch: math.MaxInt, Turn: math.MinInt}, 0},
		// Of two entries of one stamp the first one counts, in any order of the others.
		{twice, impl.Stamp{Epoch: 1, Turn: 1}, 3},
		{twice, impl.Stamp{Epoch: 2, Turn: 0}, 1},
		{countsOf([3]int{1, 1, 0}, [3]int{1, 1, 5}), impl.Stamp{Epoch: 1, Turn: 1}, 0},
		{countsOf([3]int{1, 1, -5}, [3]int{1, 1, 5}), impl.Stamp{Epoch: 1, Turn: 1}, -5},
		// Tables that are not valid in another way.
		{countsOf([3]int{2, 0, 6}, [3]int{1, 0, 5}), impl.Stamp{Epoch: 1, Turn: 0}, 5},
		{countsOf([3]int{9, -9, 6}), impl.Stamp{Epoch: 9, Turn: -9}, 6},
		{countsOf([3]int{1, 0, math.MinInt}), impl.Stamp{Epoch: 1, Turn: 0}, math.MinInt},
		{countsOf([3]int{1, 0, math.MaxInt}), impl.Stamp{Epoch: 1, Turn: 0}, math.MaxInt},
	}
	for _, c := range cases {
		if got := impl.CountAt(c.table, c.s); got != c.want {
			t.Errorf("CountAt(%v, %v) = %d, want %d", c.table, c.s, got, c.want)
		}
	}
}

func TestAdjust(t *testing.T) {
	table := countsOf([3]int{0, 2, 4}, [3]int{1, 3, -7}, [3]int{2, 1, 1})
	cases := []struct {
		table []impl.Count
		s     impl.Stamp
		n     int
		want  []impl.Count
	}{
		{nil, impl.Stamp{Epoch: 1, Turn: 2}, 3, countsOf([3]int{1, 2, 3})},
		{[]impl.Count{}, impl.Stamp{Epoch: 1, Turn: 2}, -3, countsOf([3]int{1, 2, -3})},
		// A stamp that is there.
		{table, impl.Stamp{Epoch: 0, Turn: 2}, 5, countsOf([3]int{0, 2, 9}, [3]int{1, 3, -7}, [3]int{2, 1, 1})},
		{table, impl.Stamp{Epoch: 1, Turn: 3}, 2, countsOf([3]int{0, 2, 4}, [3]int{1, 3, -5}, [3]int{2, 1, 1})},
		{table, impl.Stamp{Epoch: 2, Turn: 1}, 1, countsOf([3]int{0, 2, 4}, [3]int{1, 3, -7}, [3]int{2, 1, 2})},
		// A count that changes its sign.
		{table, impl.Stamp{Epoch: 0, Turn: 2}, -5, countsOf([3]int{0, 2, -1}, [3]int{1, 3, -7}, [3]int{2, 1, 1})},
		{table, impl.Stamp{Epoch: 1, Turn: 3}, 8, countsOf([3]int{0, 2, 4}, [3]int{1, 3, 1}, [3]int{2, 1, 1})},
		// A count that becomes 0.
		{table, impl.Stamp{Epoch: 0, Turn: 2}, -4, countsOf([3]int{1, 3, -7}, [3]int{2, 1, 1})},
		{table, impl.Stamp{Epoch: 1, Turn: 3}, 7, countsOf([3]int{0, 2, 4}, [3]int{2, 1, 1})},
		{table, impl.Stamp{Epoch: 2, Turn: 1}, -1, countsOf([3]int{0, 2, 4}, [3]int{1, 3, -7})},
		{countsOf([3]int{0, 0, 6}), impl.Stamp{}, -6, nil},
		{countsOf([3]int{0, 0, -1000000}), impl.Stamp{}, 1000000, nil},
		// A new entry at the first, a middle and the last position.
		{table, impl.Stamp{Epoch: 0, Turn: 1}, 8, countsOf([3]int{0, 1, 8}, [3]int{0, 2, 4}, [3]int{1, 3, -7}, [3]int{2, 1, 1})},
		{table, impl.Stamp{Epoch: 0, Turn: 6}, -8, countsOf([3]int{0, 2, 4}, [3]int{0, 6, -8}, [3]int{1, 3, -7}, [3]int{2, 1, 1})},
		{table, impl.Stamp{Epoch: 1, Turn: 2}, 8, countsOf([3]int{0, 2, 4}, [3]int{1, 2, 8}, [3]int{1, 3, -7}, [3]int{2, 1, 1})},
		{table, impl.Stamp{Epoch: 1, Turn: 4}, 8, countsOf([3]int{0, 2, 4}, [3]int{1, 3, -7}, [3]int{1, 4, 8}, [3]int{2, 1, 1})},
		{table, impl.Stamp{Epoch: 3, Turn: 0}, -8, countsOf([3]int{0, 2, 4}, [3]int{1, 3, -7}, [3]int{2, 1, 1}, [3]int{3, 0, -8})},
		// By 0.
		{table, impl.Stamp{Epoch: 1, Turn: 3}, 0, table},
		{table, impl.Stamp{Epoch: 1, Turn: 4}, 0, table},
		{nil, impl.Stamp{}, 0, nil},
		{fullTable(), impl.Stamp{Epoch: 3, Turn: 6}, 0, fullTable()},
		// The ends of the range.
		{nil, impl.Stamp{}, 1000000, countsOf([3]int{0, 0, 1000000})},
		{nil, impl.Stamp{}, -1000000, countsOf([3]int{0, 0, -1000000})},
		{countsOf([3]int{1, 0, 999999}), impl.Stamp{Epoch: 1}, 1, countsOf([3]int{1, 0, 1000000})},
		{countsOf([3]int{1, 0, -999999}), impl.Stamp{Epoch: 1}, -1, countsOf([3]int{1, 0, -1000000})},
		// A change that is larger than any count, of a count that stays within the range.
		{countsOf([3]int{1, 0, 1000000}), impl.Stamp{Epoch: 1}, -2000000, countsOf([3]int{1, 0, -1000000})},
		{countsOf([3]int{1, 0, -1000000}), impl.Stamp{Epoch: 1}, 2000000, countsOf([3]int{1, 0, 1000000})},
		{countsOf([3]int{1, 0, -1}), impl.Stamp{Epoch: 1}, 1000001, countsOf([3]int{1, 0, 1000000})},
	}
	for _, c := range cases {
		if got, ok := impl.Adjust(c.table, c.s, c.n); !ok || !slices.Equal(got, c.want) {
			t.Errorf("Adjust(%v, %v, %d) = %v, %v, want %v, true", c.table, c.s, c.n, got, ok, c.want)
		}
	}
}

func TestAdjustRejectsCountsOutOfRange(t *testing.T) {
	cases := []struct {
		table []impl.Count
		n     int
	}{
		{nil, 1000001},
		{nil, -1000001},
		{nil, math.MaxInt},
		{nil, math.MinInt},
		{countsOf([3]int{1, 0, 1000000}), 1},
		{countsOf([3]int{1, 0, -1000000}), -1},
		{countsOf([3]int{1, 0, 1}), 1000000},
		{countsOf([3]int{1, 0, -1}), -1000000},
		{countsOf([3]int{1, 0, 1000000}), -2000001},
		{countsOf([3]int{1, 0, -1000000}), 2000001},
		// Sums that no int can hold.
		{countsOf([3]int{1, 0, 1}), math.MaxInt},
		{countsOf([3]int{1, 0, 1000000}), math.MaxInt},
		{countsOf([3]int{1, 0, -1}), math.MinInt},
		{countsOf([3]int{1, 0, -1000000}), math.MinInt},
		{countsOf([3]int{1, 0, -1000000}), math.MaxInt},
		{countsOf([3]int{1, 0, 1000000}), math.MinInt},
		// Other entries are there.
		{countsOf([3]int{0, 0, -5}, [3]int{1, 0, 999999}, [3]int{2, 0, 5}), 2},
		{countsOf([3]int{0, 0, -5}, [3]int{2, 0, 5}), -1000001},
	}
	for _, c := range cases {
		s := impl.Stamp{Epoch: 1}
		if got, ok := impl.Adjust(c.table, s, c.n); ok || !slices.Equal(got, c.table) {
			t.Errorf("Adjust(%v, %v, %d) = %v, %v, want the table and false", c.table, s, c.n, got, ok)
		}
	}
}

func TestAdjustRejectsWrongTablesAndStamps(t *testing.T) {
	for _, table := range wrongTables() {
		// A change that makes up for the fault, too, changes nothing.
		for _, n := range []int{-2, -1, 0, 1, 2, -1000001, 1000001} {
			for _, s := range append(stampsOf([2]int{0, 0}, [2]int{1, 0}, [2]int{1, 1}, [2]int{3, 6}), table[0].Stamp) {
				if got, ok := impl.Adjust(table, s, n); ok || !slices.Equal(got, table) {
					t.Errorf("Adjust(%v, %v, %d) = %v, %v, want the table and false", table, s, n, got, ok)
				}
			}
		}
	}
	for _, s := range append(allStamps(), farStamps()...) {
		if validStamp(s) {
			continue
		}
		for _, table := range [][]impl.Count{nil, {}, countsOf([3]int{0, 0, 1}), fullTable()} {
			for _, n := range []int{-1, 0, 1} {
				if got, ok := impl.Adjust(table, s, n); ok || !slices.Equal(got, table) {
					t.Errorf("Adjust(%v, %v, %d) = %v, %v, want the table and false", table, s, n, got, ok)
				}
			}
		}
	}
}

func TestAdjustOfManyTables(t *testing.T) {
	tables := append(someTables(), fullTable())
	changes := []int{-2000000, -1000001, -999998, -2, -1, 0, 1, 2, 999999, 1000002, 2000000}
	for _, table := range tables {
		for _, s := range allStamps() {
			for _, n := range changes {
				got, ok := impl.Adjust(table, s, n)
				if want, right := plainAdjust(table, s, n); ok != right || !slices.Equal(got, want) {
					t.Fatalf("Adjust(%v, %v, %d) = %v, %v, want %v, %v", table, s, n, got, ok, want, right)
				}
				if !impl.CountsOk(got) {
					t.Fatalf("Adjust(%v, %v, %d) = %v, which is not valid", table, s, n, got)
				}
			}
		}
	}
}

func TestAddingAndRemovingACountRestoresTheTable(t *testing.T) {
	tables := append(someTables(), fullTable())
	for _, table := range tables {
		for _, c := range fullTable() {
			for _, n := range []int{c.N, -c.N, 1, -1, 1000000, -1000000, 0} {
				changed, ok := impl.Adjust(table, c.Stamp, n)
				if !ok {
					continue
				}
				if got, want := impl.CountAt(changed, c.Stamp), impl.CountAt(table, c.Stamp)+n; got != want {
					t.Fatalf("after Adjust(%v, %v, %d) the count is %d, want %d", table, c.Stamp, n, got, want)
				}
				if got, ok := impl.Adjust(changed, c.Stamp, -n); !ok || !slices.Equal(got, table) {
					t.Fatalf("Adjust(%v, %v, %d) = %v, %v, want %v, true", changed, c.Stamp, -n, got, ok, table)
				}
			}
		}
	}
}

func TestAddingAndRemovingATableRestoresTheTable(t *testing.T) {
	tables := append(someTables(), fullTable())
	for _, a := range tables {
		for _, b := range tables {
			sum, ok := impl.AddCounts(a, b)
			if !ok {
				continue
			}
			if got, ok := impl.AddCounts(sum, negated(b)); !ok || !slices.Equal(got, a) {
				t.Fatalf("AddCounts(%v, %v) = %v, %v, want %v, true", sum, negated(b), got, ok, a)
			}
		}
	}
}

func TestCountsAdjustedInAnyOrder(t *testing.T) {
	want := fullTable()
	// Each stride shares no factor with 28, so that each order visits every entry once.
	for _, stride := range []int{1, 3, 5, 9, 11, 13, 15, 19, 27} {
		var table []impl.Count
		for at := range len(want) {
			c := want[(at*stride+5)%len(want)]
			changed, ok := impl.Adjust(table, c.Stamp, c.N)
			if !ok {
				t.Fatalf("Adjust(%v, %v, %d) is rejected", table, c.Stamp, c.N)
			}
			table = changed
		}
		if !slices.Equal(table, want) {
			t.Errorf("with stride %d the table is %v, want %v", stride, table, want)
		}
	}
}

func TestAddCounts(t *testing.T) {
	table := countsOf([3]int{0, 2, 4}, [3]int{1, 3, -7}, [3]int{2, 1, 1})
	most := countsOf([3]int{0, 0, 1000000}, [3]int{1, 0, -1000000})
	cases := []struct{ a, b, want []impl.Count }{
		{nil, nil, nil},
		{[]impl.Count{}, nil, nil},
		{table, nil, table},
		{table, []impl.Count{}, table},
		{nil, table, table},
		{table, table, countsOf([3]int{0, 2, 8}, [3]int{1, 3, -14}, [3]int{2, 1, 2})},
		// Other stamps, before, between and behind.
		{
			table, countsOf([3]int{0, 1, 1}, [3]int{0, 3, 2}, [3]int{2, 0, -3}, [3]int{3, 6, 4}),
			countsOf([3]int{0, 1, 1}, [3]int{0, 2, 4}, [3]int{0, 3, 2}, [3]int{1, 3, -7}, [3]int{2, 0, -3}, [3]int{2, 1, 1}, [3]int{3, 6, 4}),
		},
		// Counts that become 0.
		{table, negated(table), nil},
		{table, countsOf([3]int{1, 3, 7}), countsOf([3]int{0, 2, 4}, [3]int{2, 1, 1})},
		{table, countsOf([3]int{0, 2, -4}, [3]int{0, 3, 1}, [3]int{2, 1, -1}), countsOf([3]int{0, 3, 1}, [3]int{1, 3, -7})},
		// Negative counts.
		{table, countsOf([3]int{0, 2, -5}, [3]int{1, 3, -1}, [3]int{3, 0, -2}), countsOf([3]int{0, 2, -1}, [3]int{1, 3, -8}, [3]int{2, 1, 1}, [3]int{3, 0, -2})},
		// The ends of the range.
		{most, negated(most), nil},
		{countsOf([3]int{0, 0, 999999}), countsOf([3]int{0, 0, 1}), countsOf([3]int{0, 0, 1000000})},
		{countsOf([3]int{0, 0, -999999}), countsOf([3]int{0, 0, -1}), countsOf([3]int{0, 0, -1000000})},
		{nil, most, most},
	}
	for _, c := range cases {
		if got, ok := impl.AddCounts(c.a, c.b); !ok || !slices.Equal(got, c.want) {
			t.Errorf("AddCounts(%v, %v) = %v, %v, want %v, true", c.a, c.b, got, ok, c.want)
		}
		if got, ok := impl.AddCounts(c.b, c.a); !ok || !slices.Equal(got, c.want) {
			t.Errorf("AddCounts(%v, %v) = %v, %v, want %v, true", c.b, c.a, got, ok, c.want)
		}
	}
}

func TestAddCountsRejects(t *testing.T) {
	table := countsOf([3]int{0, 0, 3}, [3]int{1, 0, 999999}, [3]int{2, 0, -999999})
	cases := []struct{ a, b []impl.Count }{
		// The first, a middle and the last entry of b are too much.
		{table, countsOf([3]int{0, 0, 999998}, [3]int{1, 0, 1}, [3]int{2, 0, -1})},
		{table, countsOf([3]int{0, 0, 1}, [3]int{1, 0, 2}, [3]int{2, 0, -1})},
		{table, countsOf([3]int{0, 0, 1}, [3]int{1, 0, 1}, [3]int{2, 0, -2})},
		// Before the one that is too much, an entry is new and an entry becomes 0.
		{table, countsOf([3]int{0, 0, -3}, [3]int{0, 1, 5}, [3]int{1, 0, 2}, [3]int{3, 0, 1})},
		{countsOf([3]int{0, 0, 1000000}), countsOf([3]int{0, 0, 1})},
		{countsOf([3]int{0, 0, -1000000}), countsOf([3]int{0, 0, -1})},
		{countsOf([3]int{0, 0, 1000000}), countsOf([3]int{0, 0, 1000000})},
		{countsOf([3]int{0, 0, -1000000}), countsOf([3]int{0, 0, -1000000})},
	}
	for _, wrong := range wrongTables() {
		for _, other := range [][]impl.Count{nil, {}, table, negated(wrong), wrong, fullTable()} {
			cases = append(cases, struct{ a, b []impl.Count }{wrong, other}, struct{ a, b []impl.Count }{other, wrong})
		}
	}
	for _, c := range cases {
		if got, ok := impl.AddCounts(c.a, c.b); ok || !slices.Equal(got, c.a) {
			t.Errorf("AddCounts(%v, %v) = %v, %v, want the first table and false", c.a, c.b, got, ok)
		}
	}
}

func TestAddCountsOfManyTables(t *testing.T) {
	tables := append(someTables(), fullTable())
	for _, a := range tables {
		for _, b := range tables {
			got, ok := impl.AddCounts(a, b)
			if want, right := plainAdd(a, b); ok != right || !slices.Equal(got, want) {
				t.Fatalf("AddCounts(%v, %v) = %v, %v, want %v, %v", a, b, got, ok, want, right)
			}
			other, reverse := impl.AddCounts(b, a)
			if reverse != ok || ok && !slices.Equal(got, other) {
				t.Fatalf("AddCounts(%v, %v) = %v, %v, but the other way round %v, %v", a, b, got, ok, other, reverse)
			}
		}
	}
}

func TestThreeTablesAddedInAnyOrder(t *testing.T) {
	// The sums of these tables are within the range in every order.
	tables := [][]impl.Count{
		fullTable(),
		negated(fullTable()),
		countsOf([3]int{0, 0, 5}, [3]int{1, 0, -2}, [3]int{3, 6, 1}),
		countsOf([3]int{0, 0, -5}, [3]int{0, 1, 3}, [3]int{1, 0, 1}),
		countsOf([3]int{1, 0, 1}, [3]int{2, 4, 300000}),
		countsOf([3]int{2, 4, -300000}, [3]int{3, 6, -1}),
	}
	add := func(a []impl.Count, b []impl.Count) []impl.Count {
		sum, ok := impl.AddCounts(a, b)
		if !ok {
			t.Fatalf("AddCounts(%v, %v) is rejected", a, b)
		}
		return sum
	}
	for _, a := range tables {
		for _, b := range tables {
			for _, c := range tables {
				want := add(add(a, b), c)
				for _, got := range [][]impl.Count{add(a, add(b, c)), add(add(a, c), b), add(add(b, a), c), add(add(b, c), a), add(add(c, a), b), add(add(c, b), a)} {
					if !slices.Equal(got, want) {
						t.Fatalf("the sum of %v, %v and %v is %v in one order and %v in another", a, b, c, want, got)
					}
				}
			}
		}
	}
}

func TestFrontOf(t *testing.T) {
	cases := []struct {
		table []impl.Count
		want  []impl.Stamp
	}{
		{nil, nil},
		{[]impl.Count{}, nil},
		{countsOf([3]int{1, 2, 1}), stampsOf([2]int{1, 2})},
		{countsOf([3]int{0, 3, 2}, [3]int{1, 0, 5}), stampsOf([2]int{0, 3}, [2]int{1, 0})},
		{countsOf([3]int{0, 3, 2}, [3]int{1, 0, 5}, [3]int{1, 1, 1}, [3]int{2, 0, 9}), stampsOf([2]int{0, 3}, [2]int{1, 0})},
		{countsOf([3]int{0, 0, 1}, [3]int{0, 3, 2}, [3]int{1, 0, 5}), stampsOf([2]int{0, 0})},
		{countsOf([3]int{0, 0, 1000000}, [3]int{3, 6, 1000000}), stampsOf([2]int{0, 0})},
		// Negative counts do not hold the front back.
		{countsOf([3]int{1, 2, -1}), nil},
		{countsOf([3]int{0, 0, -1}, [3]int{1, 2, 1}), stampsOf([2]int{1, 2})},
		{countsOf([3]int{0, 3, 2}, [3]int{1, 0, -5}, [3]int{1, 1, 1}, [3]int{2, 0, 9}), stampsOf([2]int{0, 3}, [2]int{1, 1}, [2]int{2, 0})},
		{countsOf([3]int{0, 0, -1000000}, [3]int{3, 6, -1}), nil},
		// Tables that are not valid.
		{countsOf([3]int{0, 0, 0}), nil},
		{countsOf([3]int{0, 0, 0}, [3]int{1, 1, 1}), stampsOf([2]int{1, 1})},
		{countsOf([3]int{1, 0, 5}, [3]int{0, 3, 2}), stampsOf([2]int{0, 3}, [2]int{1, 0})},
		{countsOf([3]int{2, 0, 5}, [3]int{1, 0, 2}), stampsOf([2]int{1, 0})},
		{countsOf([3]int{1, 0, 5}, [3]int{1, 0, 2}), stampsOf([2]int{1, 0})},
		// Each entry counts on its own, so that a negative one does not cancel another one of its stamp.
		{countsOf([3]int{1, 0, 5}, [3]int{1, 0, -5}), stampsOf([2]int{1, 0})},
		{countsOf([3]int{1, 0, -5}, [3]int{1, 0, 5}), stampsOf([2]int{1, 0})},
		{countsOf([3]int{1, 0, 0}, [3]int{1, 0, 5}), stampsOf([2]int{1, 0})},
		{countsOf([3]int{1, 0, -5}, [3]int{1, 0, 0}), nil},
		{countsOf([3]int{-1, 9, 1}, [3]int{0, 0, 1}, [3]int{9, -1, 1}), stampsOf([2]int{-1, 9}, [2]int{0, 0}, [2]int{9, -1})},
		{countsOf([3]int{-1, -1, 1}, [3]int{0, 0, 1}), stampsOf([2]int{-1, -1})},
		{countsOf([3]int{4, 7, 1000001}), stampsOf([2]int{4, 7})},
		{countsOf([3]int{1, 0, math.MaxInt}, [3]int{0, 3, math.MinInt}), stampsOf([2]int{1, 0})},
	}
	for _, c := range cases {
		if got := impl.FrontOf(c.table); !slices.Equal(got, c.want) {
			t.Errorf("FrontOf(%v) = %v, want %v", c.table, got, c.want)
		}
	}
}

func TestFrontOfManyTables(t *testing.T) {
	for _, table := range append(append(someTables(), fullTable()), wrongTables()...) {
		var present []impl.Stamp
		for _, c := range table {
			if c.N > 0 {
				present = append(present, c.Stamp)
			}
		}
		if got, want := impl.FrontOf(table), plainMinimal(present); !slices.Equal(got, want) {
			t.Fatalf("FrontOf(%v) = %v, want %v", table, got, want)
		}
	}
}

func TestTotalCount(t *testing.T) {
	cases := []struct {
		table []impl.Count
		want  int
	}{
		{nil, 0},
		{[]impl.Count{}, 0},
		{countsOf([3]int{1, 2, 7}), 7},
		{countsOf([3]int{1, 2, -7}), -7},
		{countsOf([3]int{0, 2, 4}, [3]int{1, 3, -7}, [3]int{2, 1, 1}), -2},
		{countsOf([3]int{0, 2, 4}, [3]int{1, 3, -4}), 0},
		{countsOf([3]int{0, 0, 1000000}, [3]int{0, 1, 1000000}, [3]int{3, 6, 1000000}), 3000000},
		{countsOf([3]int{0, 0, -1000000}, [3]int{3, 6, -1000000}), -2000000},
		// Tables that are not valid.
		{countsOf([3]int{1, 1, 3}, [3]int{1, 1, 5}, [3]int{0, 0, 7}), 15},
		{countsOf([3]int{9, -9, 3}, [3]int{0, 0, 0}, [3]int{-1, 7, -1}), 2},
		{countsOf([3]int{0, 0, 1000001}, [3]int{1, 0, 1000001}), 2000002},
		{countsOf([3]int{0, 0, math.MaxInt}, [3]int{1, 0, math.MinInt}), -1},
		{countsOf([3]int{0, 0, math.MaxInt}, [3]int{1, 0, 1}, [3]int{2, 0, -1}), math.MaxInt},
	}
	for _, c := range cases {
		if got := impl.TotalCount(c.table); got != c.want {
			t.Errorf("TotalCount(%v) = %d, want %d", c.table, got, c.want)
		}
	}
}

func TestEpochCount(t *testing.T) {
	table := countsOf([3]int{0, 2, 4}, [3]int{1, 0, 9}, [3]int{1, 3, -7}, [3]int{1, 6, 20}, [3]int{3, 1, -1})
	cases := []struct {
		table []impl.Count
		epoch int
		want  int
	}{
		{nil, 0, 0},
		{[]impl.Count{}, 3, 0},
		{table, 0, 4},
		{table, 1, 22},
		{table, 2, 0},
		{table, 3, -1},
		{table, 4, 0},
		{table, -1, 0},
		// The turn has no say.
		{table, 6, 0},
		{table, math.MinInt, 0},
		{table, math.MaxInt, 0},
		{countsOf([3]int{2, 0, 5}, [3]int{2, 1, -5}), 2, 0},
		{countsOf([3]int{2, 0, 1000000}, [3]int{2, 6, 1000000}), 2, 2000000},
		// Tables that are not valid.
		{countsOf([3]int{1, 1, 3}, [3]int{0, 0, 7}, [3]int{1, 1, 5}), 1, 8},
		{countsOf([3]int{1, 1, 3}, [3]int{0, 0, 7}, [3]int{1, 0, -5}), 1, -2},
		{countsOf([3]int{1, 0, 0}, [3]int{1, 1, 0}), 1, 0},
		{countsOf([3]int{-1, 0, 6}, [3]int{4, 9, 3}), -1, 6},
		{countsOf([3]int{-1, 0, 6}, [3]int{4, 9, 3}), 4, 3},
		{countsOf([3]int{2, 0, 1000001}, [3]int{1, 0, 1}), 2, 1000001},
		{countsOf([3]int{math.MinInt, 0, 2}, [3]int{math.MaxInt, 0, 3}), math.MaxInt, 3},
		{countsOf([3]int{2, 0, math.MaxInt}, [3]int{2, 0, math.MinInt}), 2, -1},
	}
	for _, c := range cases {
		if got := impl.EpochCount(c.table, c.epoch); got != c.want {
			t.Errorf("EpochCount(%v, %d) = %d, want %d", c.table, c.epoch, got, c.want)
		}
	}
}

func TestEpochCountsAddUpToTheTotal(t *testing.T) {
	for _, table := range append(someTables(), fullTable()) {
		sum, at := 0, 0
		for epoch := range 4 {
			sum += impl.EpochCount(table, epoch)
		}
		for _, s := range allStamps() {
			at += impl.CountAt(table, s)
		}
		if total := impl.TotalCount(table); total != sum || total != at {
			t.Fatalf("TotalCount(%v) = %d, but the epochs have %d and the stamps %d", table, total, sum, at)
		}
	}
}

// spareCount is what the capacity behind a table holds; it has a stamp and a count that are valid, so that a function which reads it is found out too.
var spareCount = impl.Count{Stamp: impl.Stamp{Epoch: 1, Turn: 1}, N: 12345}

func tablesForMemory() [][]impl.Count {
	tables := [][]impl.Count{
		nil,
		countsOf([3]int{1, 1, 1}),
		countsOf([3]int{1, 1, -1}),
		countsOf([3]int{1, 1, 1000000}),
		countsOf([3]int{0, 2, 4}, [3]int{1, 3, -7}, [3]int{2, 1, 1}),
		countsOf([3]int{0, 2, -4}, [3]int{1, 3, 7}),
		fullTable(),
	}
	return append(tables, wrongTables()...)
}

func TestCountsDoNotChangeTheirTables(t *testing.T) {
	s := impl.Stamp{Epoch: 1, Turn: 1}
	calls := []struct {
		name string
		call func(a []impl.Count, b []impl.Count)
	}{
		{"CountsOk", func(a []impl.Count, b []impl.Count) { impl.CountsOk(a) }},
		{"CountAt", func(a []impl.Count, b []impl.Count) { impl.CountAt(a, s) }},
		{"Adjust by -1", func(a []impl.Count, b []impl.Count) { impl.Adjust(a, s, -1) }},
		{"Adjust by 0", func(a []impl.Count, b []impl.Count) { impl.Adjust(a, s, 0) }},
		{"Adjust by 1", func(a []impl.Count, b []impl.Count) { impl.Adjust(a, s, 1) }},
		{"Adjust at the first stamp", func(a []impl.Count, b []impl.Count) { impl.Adjust(a, impl.Stamp{}, 1) }},
		{"Adjust at the last stamp", func(a []impl.Count, b []impl.Count) { impl.Adjust(a, impl.Stamp{Epoch: 3, Turn: 6}, 1) }},
		{"AddCounts", func(a []impl.Count, b []impl.Count) { impl.AddCounts(a, b) }},
		{"FrontOf", func(a []impl.Count, b []impl.Count) { impl.FrontOf(a) }},
		{"TotalCount", func(a []impl.Count, b []impl.Count) { impl.TotalCount(a) }},
		{"EpochCount", func(a []impl.Count, b []impl.Count) { impl.EpochCount(a, 1) }},
	}
	for _, a := range tablesForMemory() {
		for _, b := range tablesForMemory() {
			for _, c := range calls {
				checkUnchanged(t, c.name, a, b, spareCount, c.call)
			}
		}
	}
}

func TestCountsShareNoMemoryWithTheirTables(t *testing.T) {
	mark := impl.Count{Stamp: impl.Stamp{Epoch: 77, Turn: 77}, N: 77}
	adjusted := func(s impl.Stamp, n int) func(a []impl.Count, b []impl.Count) []impl.Count {
		return func(a []impl.Count, b []impl.Count) []impl.Count {
			table, _ := impl.Adjust(a, s, n)
			return table
		}
	}
	added := func(a []impl.Count, b []impl.Count) []impl.Count {
		table, _ := impl.AddCounts(a, b)
		return table
	}
	results := []struct {
		name string
		of   func(a []impl.Count, b []impl.Count) []impl.Count
	}{
		{"Adjust by -1", adjusted(impl.Stamp{Epoch: 1, Turn: 1}, -1)},
		{"Adjust by 0", adjusted(impl.Stamp{Epoch: 1, Turn: 1}, 0)},
		{"Adjust by 1", adjusted(impl.Stamp{Epoch: 1, Turn: 1}, 1)},
		{"Adjust at the last stamp", adjusted(impl.Stamp{Epoch: 3, Turn: 6}, 1)},
		{"Adjust out of range", adjusted(impl.Stamp{Epoch: 1, Turn: 1}, 5000000)},
		{"Adjust at a wrong stamp", adjusted(impl.Stamp{Epoch: 4, Turn: 0}, 1)},
		{"AddCounts", added},
	}
	for _, a := range tablesForMemory() {
		for _, b := range tablesForMemory() {
			for _, r := range results {
				checkNewMemory(t, r.name, a, b, spareCount, mark, r.of)
			}
		}
	}
}

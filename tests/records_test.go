package tests

import (
	"math"
	"math/big"
	"slices"
	"testing"

	"loop.example/g00973/impl"
)

// recordOf builds a record from its operator, epoch, turn, key and value.
func recordOf(f [5]int) impl.Record {
	return impl.Record{Op: f[0], Stamp: impl.Stamp{Epoch: f[1], Turn: f[2]}, Key: f[3], Val: f[4]}
}

func recordsOf(fives ...[5]int) []impl.Record {
	var list []impl.Record
	for _, f := range fives {
		list = append(list, recordOf(f))
	}
	return list
}

// ranked returns the fields of a record in the order in which the document compares them.
func ranked(r impl.Record) []int {
	return []int{r.Stamp.Epoch, r.Stamp.Turn, r.Op, r.Key, r.Val}
}

func plainOrder(a impl.Record, b impl.Record) int {
	return slices.Compare(ranked(a), ranked(b))
}

// plainSorted inserts each record at its place, without a sort routine.
func plainSorted(list []impl.Record) []impl.Record {
	var sorted []impl.Record
	for _, r := range list {
		at := 0
		for at < len(sorted) && plainOrder(sorted[at], r) <= 0 {
			at++
		}
		sorted = slices.Insert(sorted, at, r)
	}
	return sorted
}

func occurrences(list []impl.Record, r impl.Record) int {
	n := 0
	for _, x := range list {
		if x == r {
			n++
		}
	}
	return n
}

// plainSameBag counts how often each record occurs, without an order.
func plainSameBag(a []impl.Record, b []impl.Record) bool {
	for _, r := range slices.Concat(a, b) {
		if occurrences(a, r) != occurrences(b, r) {
			return false
		}
	}
	return true
}

// gridRecords returns the records whose fields are chosen from the given numbers in every way.
func gridRecords(numbers ...int) []impl.Record {
	fives := [][5]int{{}}
	for field := range 5 {
		var longer [][5]int
		for _, f := range fives {
			for _, n := range numbers {
				f[field] = n
				longer = append(longer, f)
			}
		}
		fives = longer
	}
	return recordsOf(fives...)
}

// shortRecordLists returns every list of at most three records from a few, in every order and with every duplicate. Of the few, five differ from the first one in exactly one field each, and the last one is not valid.
func shortRecordLists() [][]impl.Record {
	few := recordsOf([5]int{1, 1, 1, 1, 1}, [5]int{0, 1, 1, 1, 1}, [5]int{1, 2, 1, 1, 1}, [5]int{1, 1, 0, 1, 1}, [5]int{1, 1, 1, 2, 1}, [5]int{1, 1, 1, 1, 0}, [5]int{-1, 9, -1, 100, 1000})
	lists := [][]impl.Record{nil}
	for at := 0; at < len(lists) && len(lists[at]) < 3; at++ {
		for _, r := range few {
			lists = append(lists, append(slices.Clone(lists[at]), r))
		}
	}
	return lists
}

// longRecordLists returns lists that are too long for the short way of a sort routine, in mixed orders and with duplicates.
func longRecordLists() [][]impl.Record {
	var lists [][]impl.Record
	for _, all := range [][]impl.Record{gridRecords(0, 1, 2), gridRecords(math.MinInt, -1, math.MaxInt)} {
		for _, stride := range []int{1, 2, 7, 82, 121, 242} {
			var list []impl.Record
			for at := range 300 {
				list = append(list, all[(at*stride+11)%len(all)])
			}
			lists = append(lists, list)
		}
		lists = append(lists, slices.Repeat(all[40:41], 60), slices.Repeat(all[40:43], 30))
	}
	return lists
}

func TestLimitsOfRecords(t *testing.T) {
	if impl.MaxKey != 99 || impl.MaxVal != 999 {
		t.Errorf("limits are %d and %d, want 99 and 999", impl.MaxKey, impl.MaxVal)
	}
}

func TestRecordOk(t *testing.T) {
	right := recordsOf(
		[5]int{},
		[5]int{1, 2, 0, 17, 5},
		[5]int{7, 3, 6, 99, 999},
		// Each field at the end of its range.
		[5]int{7, 1, 1, 1, 1}, [5]int{0, 1, 1, 1, 1},
		[5]int{1, 3, 1, 1, 1}, [5]int{1, 0, 1, 1, 1},
		[5]int{1, 1, 6, 1, 1}, [5]int{1, 1, 0, 1, 1},
		[5]int{1, 1, 1, 99, 1}, [5]int{1, 1, 1, 0, 1},
		[5]int{1, 1, 1, 1, 999}, [5]int{1, 1, 1, 1, 0},
	)
	for _, r := range right {
		if !impl.RecordOk(r) {
			t.Errorf("RecordOk(%v) = false, want true", r)
		}
	}
	wrong := recordsOf(
		// Each field one beyond its range.
		[5]int{8, 1, 1, 1, 1}, [5]int{-1, 1, 1, 1, 1},
		[5]int{1, 4, 1, 1, 1}, [5]int{1, -1, 1, 1, 1},
		[5]int{1, 1, 7, 1, 1}, [5]int{1, 1, -1, 1, 1},
		[5]int{1, 1, 1, 100, 1}, [5]int{1, 1, 1, -1, 1},
		[5]int{1, 1, 1, 1, 1000}, [5]int{1, 1, 1, 1, -1},
		// Numbers that another field may have.
		[5]int{99, 1, 1, 1, 1}, [5]int{1, 6, 3, 1, 1}, [5]int{1, 1, 1, 999, 99},
		// All fields at once.
		[5]int{8, 4, 7, 100, 1000}, [5]int{-1, -1, -1, -1, -1},
	)
	for _, r := range wrong {
		if impl.RecordOk(r) {
			t.Errorf("RecordOk(%v) = true, want false", r)
		}
	}
}

func TestRecordOkOfEachFieldAlone(t *testing.T) {
	for field, most := range []int{7, 3, 6, 99, 999} {
		numbers := []int{math.MinInt, math.MinInt + 1, math.MaxInt - 1, math.MaxInt, 1 << 32}
		for n := -300; n <= 1300; n++ {
			numbers = append(numbers, n)
		}
		for _, n := range numbers {
			f := [5]int{1, 1, 1, 1, 1}
			f[field] = n
			if got, want := impl.RecordOk(recordOf(f)), n >= 0 && n <= most; got != want {
				t.Fatalf("RecordOk(%v) = %v, want %v", recordOf(f), got, want)
			}
		}
	}
}

func TestRecordOkOfEveryStamp(t *testing.T) {
	for _, s := range append(allStamps(), farStamps()...) {
		r := impl.Record{Op: 7, Stamp: s, Key: 99, Val: 999}
		if got, want := impl.RecordOk(r), validStamp(s); got != want {
			t.Errorf("RecordOk(%v) = %v, want %v", r, got, want)
		}
	}
}

func TestRecordOrder(t *testing.T) {
	// In each case the first record is the smaller one.
	cases := [][2][5]int{
		// The records differ in exactly one field.
		{{3, 1, 3, 3, 3}, {3, 2, 3, 3, 3}},
		{{3, 3, 1, 3, 3}, {3, 3, 2, 3, 3}},
		{{1, 3, 3, 3, 3}, {2, 3, 3, 3, 3}},
		{{3, 3, 3, 1, 3}, {3, 3, 3, 2, 3}},
		{{3, 3, 3, 3, 1}, {3, 3, 3, 3, 2}},
		// The fields of lower rank order them the other way.
		{{2, 1, 2, 2, 2}, {1, 2, 1, 1, 1}},
		{{2, 3, 1, 2, 2}, {1, 3, 2, 1, 1}},
		{{1, 3, 3, 2, 2}, {2, 3, 3, 1, 1}},
		{{3, 3, 3, 1, 2}, {3, 3, 3, 2, 1}},
		// One field of lower rank does.
		{{3, 1, 6, 3, 3}, {3, 2, 0, 3, 3}},
		{{7, 1, 3, 3, 3}, {0, 2, 3, 3, 3}},
		{{3, 1, 3, 99, 3}, {3, 2, 3, 0, 3}},
		{{3, 1, 3, 3, 999}, {3, 2, 3, 3, 0}},
		{{7, 3, 1, 3, 3}, {0, 3, 2, 3, 3}},
		{{3, 3, 1, 99, 3}, {3, 3, 2, 0, 3}},
		{{3, 3, 1, 3, 999}, {3, 3, 2, 3, 0}},
		{{1, 3, 3, 99, 3}, {2, 3, 3, 0, 3}},
		{{1, 3, 3, 3, 999}, {2, 3, 3, 3, 0}},
		// Records that are not valid, also where a difference wraps around.
		{{3, -1, 3, 3, 3}, {3, 0, 3, 3, 3}},
		{{3, math.MinInt, 3, 3, 3}, {3, math.MaxInt, 3, 3, 3}},
		{{3, 3, math.MinInt, 3, 3}, {3, 3, math.MaxInt, 3, 3}},
		{{math.MinInt, 3, 3, 3, 3}, {math.MaxInt, 3, 3, 3, 3}},
		{{3, 3, 3, math.MinInt, 3}, {3, 3, 3, math.MaxInt, 3}},
		{{3, 3, 3, 3, math.MinInt}, {3, 3, 3, 3, math.MaxInt}},
	}
	for _, c := range cases {
		a, b := recordOf(c[0]), recordOf(c[1])
		for _, x := range []struct {
			a, b impl.Record
			want int
		}{{a, b, -1}, {b, a, 1}, {a, a, 0}, {b, b, 0}} {
			if got := impl.RecordOrder(x.a, x.b); got != x.want {
				t.Errorf("RecordOrder(%v, %v) = %d, want %d", x.a, x.b, got, x.want)
			}
		}
	}
}

func TestRecordOrderOfManyPairs(t *testing.T) {
	for _, all := range [][]impl.Record{gridRecords(0, 1, 2), gridRecords(math.MinInt, -1, math.MaxInt)} {
		for _, a := range all {
			for _, b := range all {
				if got, want := impl.RecordOrder(a, b), plainOrder(a, b); got != want {
					t.Fatalf("RecordOrder(%v, %v) = %d, want %d", a, b, got, want)
				}
			}
		}
	}
}

func TestSortRecords(t *testing.T) {
	cases := []struct{ list, want []impl.Record }{
		{nil, nil},
		{[]impl.Record{}, nil},
		{recordsOf([5]int{1, 2, 0, 17, 5}), recordsOf([5]int{1, 2, 0, 17, 5})},
		{recordsOf([5]int{0, 0, 0, 5, 9}, [5]int{0, 0, 0, 5, 3}), recordsOf([5]int{0, 0, 0, 5, 3}, [5]int{0, 0, 0, 5, 9})},
		// Already sorted, and the other way round.
		{recordsOf([5]int{1, 0, 0, 1, 1}, [5]int{0, 0, 1, 1, 1}, [5]int{0, 1, 0, 1, 1}), recordsOf([5]int{1, 0, 0, 1, 1}, [5]int{0, 0, 1, 1, 1}, [5]int{0, 1, 0, 1, 1})},
		{recordsOf([5]int{0, 1, 0, 1, 1}, [5]int{0, 0, 1, 1, 1}, [5]int{1, 0, 0, 1, 1}), recordsOf([5]int{1, 0, 0, 1, 1}, [5]int{0, 0, 1, 1, 1}, [5]int{0, 1, 0, 1, 1})},
		// The stamp comes first, then the operator, the key and the value.
		{
			recordsOf([5]int{0, 2, 0, 0, 0}, [5]int{1, 1, 1, 0, 0}, [5]int{2, 1, 0, 1, 0}, [5]int{2, 1, 0, 0, 2}, [5]int{1, 1, 0, 9, 9}, [5]int{2, 1, 0, 0, 1}),
			recordsOf([5]int{1, 1, 0, 9, 9}, [5]int{2, 1, 0, 0, 1}, [5]int{2, 1, 0, 0, 2}, [5]int{2, 1, 0, 1, 0}, [5]int{1, 1, 1, 0, 0}, [5]int{0, 2, 0, 0, 0}),
		},
		// The same record several times.
		{recordsOf([5]int{1, 1, 1, 1, 1}, [5]int{1, 1, 1, 1, 1}), recordsOf([5]int{1, 1, 1, 1, 1}, [5]int{1, 1, 1, 1, 1})},
		{
			recordsOf([5]int{1, 1, 1, 1, 2}, [5]int{1, 1, 1, 1, 1}, [5]int{1, 1, 1, 1, 2}, [5]int{1, 1, 1, 1, 1}, [5]int{1, 1, 1, 1, 1}),
			recordsOf([5]int{1, 1, 1, 1, 1}, [5]int{1, 1, 1, 1, 1}, [5]int{1, 1, 1, 1, 1}, [5]int{1, 1, 1, 1, 2}, [5]int{1, 1, 1, 1, 2}),
		},
		// Records that are not valid stay as the others do.
		{
			recordsOf([5]int{8, 4, 7, 100, 1000}, [5]int{0, 0, 0, -1, 0}, [5]int{0, 0, 0, 0, -1}, [5]int{-1, 0, 0, 0, 0}, [5]int{0, -1, 0, 0, 0}),
			recordsOf([5]int{0, -1, 0, 0, 0}, [5]int{-1, 0, 0, 0, 0}, [5]int{0, 0, 0, -1, 0}, [5]int{0, 0, 0, 0, -1}, [5]int{8, 4, 7, 100, 1000}),
		},
		{
			recordsOf([5]int{0, 0, 0, math.MaxInt, 0}, [5]int{0, 0, 0, 0, 0}, [5]int{0, 0, 0, math.MinInt, 0}),
			recordsOf([5]int{0, 0, 0, math.MinInt, 0}, [5]int{0, 0, 0, 0, 0}, [5]int{0, 0, 0, math.MaxInt, 0}),
		},
	}
	for _, c := range cases {
		if got := impl.SortRecords(c.list); !slices.Equal(got, c.want) {
			t.Errorf("SortRecords(%v) = %v, want %v", c.list, got, c.want)
		}
	}
}

func TestSortingPreservesTheMultiset(t *testing.T) {
	for _, list := range append(shortRecordLists(), longRecordLists()...) {
		sorted := impl.SortRecords(list)
		if len(sorted) != len(list) || !plainSameBag(sorted, list) {
			t.Fatalf("SortRecords(%v) = %v, which has other records", list, sorted)
		}
		if !impl.SameBag(sorted, list) || !impl.SameBag(list, sorted) {
			t.Fatalf("SameBag of %v and its sorted list is false", list)
		}
		if want := plainSorted(list); !slices.Equal(sorted, want) {
			t.Fatalf("SortRecords(%v) = %v, want %v", list, sorted, want)
		}
		if again := impl.SortRecords(sorted); !slices.Equal(again, sorted) {
			t.Fatalf("SortRecords(%v) = %v, want it unchanged", sorted, again)
		}
	}
}

func TestSameBag(t *testing.T) {
	a, b, c := recordOf([5]int{1, 1, 1, 1, 1}), recordOf([5]int{2, 0, 3, 4, 5}), recordOf([5]int{-1, 9, -1, 100, 1000})
	cases := []struct {
		a, b []impl.Record
		want bool
	}{
		{nil, nil, true},
		{nil, []impl.Record{}, true},
		{[]impl.Record{a}, []impl.Record{a}, true},
		{[]impl.Record{c}, []impl.Record{c}, true},
		// The same records in another order.
		{[]impl.Record{a, b}, []impl.Record{b, a}, true},
		{[]impl.Record{a, b, c}, []impl.Record{c, a, b}, true},
		{[]impl.Record{a, b, a, c}, []impl.Record{c, a, b, a}, true},
		{[]impl.Record{a, a, a}, []impl.Record{a, a, a}, true},
		// Lists of different lengths.
		{nil, []impl.Record{a}, false},
		{nil, []impl.Record{{}}, false},
		{[]impl.Record{a}, []impl.Record{a, b}, false},
		{[]impl.Record{a}, []impl.Record{b, a}, false},
		{[]impl.Record{a, b}, []impl.Record{a, b, c}, false},
		{[]impl.Record{a}, []impl.Record{a, a}, false},
		{[]impl.Record{a, b}, []impl.Record{b, a, b}, false},
		// The same records, but not equally often.
		{[]impl.Record{a, a, b}, []impl.Record{a, b, b}, false},
		{[]impl.Record{a, b, b, c}, []impl.Record{a, a, b, c}, false},
		{[]impl.Record{c, a, b, c}, []impl.Record{b, c, a, a}, false},
		// Other records.
		{[]impl.Record{a}, []impl.Record{b}, false},
		{[]impl.Record{a, b}, []impl.Record{a, c}, false},
		{[]impl.Record{a, b}, []impl.Record{c, b}, false},
		// One field differs.
		{[]impl.Record{a}, recordsOf([5]int{2, 1, 1, 1, 1}), false},
		{[]impl.Record{a}, recordsOf([5]int{1, 2, 1, 1, 1}), false},
		{[]impl.Record{a}, recordsOf([5]int{1, 1, 2, 1, 1}), false},
		{[]impl.Record{a}, recordsOf([5]int{1, 1, 1, 2, 1}), false},
		{[]impl.Record{a}, recordsOf([5]int{1, 1, 1, 1, 2}), false},
	}
	for _, x := range cases {
		if got := impl.SameBag(x.a, x.b); got != x.want {
			t.Errorf("SameBag(%v, %v) = %v, want %v", x.a, x.b, got, x.want)
		}
		if got := impl.SameBag(x.b, x.a); got != x.want {
			t.Errorf("SameBag(%v, %v) = %v, want %v", x.b, x.a, got, x.want)
		}
	}
}

func TestSameBagOfManyLists(t *testing.T) {
	lists := shortRecordLists()
	for _, a := range lists {
		for _, b := range lists {
			if got, want := impl.SameBag(a, b), plainSameBag(a, b); got != want {
				t.Fatalf("SameBag(%v, %v) = %v, want %v", a, b, got, want)
			}
		}
	}
	for _, list := range longRecordLists() {
		other := slices.Clone(list)
		slices.Reverse(other)
		if !impl.SameBag(list, other) {
			t.Errorf("SameBag of %v and its reverse = false", list)
		}
		other[len(other)/2].Val++
		if impl.SameBag(list, other) {
			t.Errorf("SameBag of %v and a list with one other value = true", list)
		}
	}
}

func TestOfEpoch(t *testing.T) {
	list := recordsOf([5]int{1, 2, 0, 17, 5}, [5]int{0, 1, 2, 3, 4}, [5]int{0, 2, 6, 1, 1}, [5]int{0, 0, 2, 2, 2}, [5]int{1, 2, 0, 17, 5}, [5]int{0, 2, 0, 1, 1})
	far := recordsOf([5]int{0, -1, 0, 0, 0}, [5]int{0, math.MaxInt, 0, 0, 0}, [5]int{-8, 2, 99, -1, 1000}, [5]int{0, math.MinInt, 0, 0, 0}, [5]int{0, 4, 0, 0, 0})
	cases := []struct {
		list  []impl.Record
		epoch int
		want  []impl.Record
	}{
		{nil, 0, nil},
		{[]impl.Record{}, 2, nil},
		// In order, which is not the sorted one, and a record twice.
		{list, 2, recordsOf([5]int{1, 2, 0, 17, 5}, [5]int{0, 2, 6, 1, 1}, [5]int{1, 2, 0, 17, 5}, [5]int{0, 2, 0, 1, 1})},
		{list, 1, recordsOf([5]int{0, 1, 2, 3, 4})},
		{list, 0, recordsOf([5]int{0, 0, 2, 2, 2})},
		// An epoch that no record has, though an operator, a turn, a key or a value is that number.
		{list, 3, nil},
		{list, 4, nil},
		{list, 5, nil},
		{list, 6, nil},
		{list, 17, nil},
		{list, -1, nil},
		{list, math.MinInt, nil},
		{list, math.MaxInt, nil},
		// All records are kept.
		{recordsOf([5]int{0, 3, 1, 1, 1}, [5]int{0, 3, 0, 1, 1}), 3, recordsOf([5]int{0, 3, 1, 1, 1}, [5]int{0, 3, 0, 1, 1})},
		// Records and epochs that are not valid.
		{far, -1, recordsOf([5]int{0, -1, 0, 0, 0})},
		{far, 2, recordsOf([5]int{-8, 2, 99, -1, 1000})},
		{far, 4, recordsOf([5]int{0, 4, 0, 0, 0})},
		{far, math.MaxInt, recordsOf([5]int{0, math.MaxInt, 0, 0, 0})},
		{far, math.MinInt, recordsOf([5]int{0, math.MinInt, 0, 0, 0})},
	}
	for _, c := range cases {
		if got := impl.OfEpoch(c.list, c.epoch); !slices.Equal(got, c.want) {
			t.Errorf("OfEpoch(%v, %d) = %v, want %v", c.list, c.epoch, got, c.want)
		}
	}
}

func TestEpochsHaveEveryRecordOnce(t *testing.T) {
	for _, list := range append(shortRecordLists(), longRecordLists()...) {
		var all []impl.Record
		for _, epoch := range []int{math.MinInt, -1, 0, 1, 2, 9, math.MaxInt} {
			all = append(all, impl.OfEpoch(list, epoch)...)
		}
		if len(all) != len(list) || !plainSameBag(all, list) {
			t.Fatalf("the epochs of %v have %v", list, all)
		}
	}
}

func TestCountsOfRecords(t *testing.T) {
	cases := []struct {
		list []impl.Record
		want []impl.Count
	}{
		{nil, nil},
		{[]impl.Record{}, nil},
		{recordsOf([5]int{1, 2, 0, 17, 5}), countsOf([3]int{2, 0, 1})},
		{recordsOf([5]int{}), countsOf([3]int{0, 0, 1})},
		// Several records with one stamp, equal ones and others.
		{recordsOf([5]int{1, 2, 0, 17, 5}, [5]int{1, 2, 0, 17, 5}), countsOf([3]int{2, 0, 2})},
		{recordsOf([5]int{1, 2, 0, 17, 5}, [5]int{0, 2, 0, 17, 5}, [5]int{1, 2, 0, 18, 5}, [5]int{1, 2, 0, 17, 6}), countsOf([3]int{2, 0, 4})},
		// Several stamps, in ascending order.
		{
			recordsOf([5]int{0, 2, 1, 0, 0}, [5]int{1, 1, 6, 0, 0}, [5]int{2, 2, 0, 0, 0}, [5]int{3, 0, 3, 0, 0}, [5]int{4, 2, 1, 0, 0}, [5]int{5, 1, 6, 0, 0}, [5]int{6, 2, 1, 0, 0}),
			countsOf([3]int{0, 3, 1}, [3]int{1, 6, 2}, [3]int{2, 0, 1}, [3]int{2, 1, 3}),
		},
		// Both ends of the stamps.
		{recordsOf([5]int{0, 3, 6, 0, 0}, [5]int{0, 0, 6, 0, 0}, [5]int{0, 3, 0, 0, 0}), countsOf([3]int{0, 6, 1}, [3]int{3, 0, 1}, [3]int{3, 6, 1})},
		// Stamps that are not valid.
		{recordsOf([5]int{0, 4, 0, 0, 0}), nil},
		{recordsOf([5]int{0, 0, 7, 0, 0}), nil},
		{recordsOf([5]int{0, -1, 0, 0, 0}, [5]int{0, 0, -1, 0, 0}), nil},
		{recordsOf([5]int{0, math.MinInt, 0, 0, 0}, [5]int{0, 0, math.MaxInt, 0, 0}), nil},
		{recordsOf([5]int{0, 4, 0, 0, 0}, [5]int{0, 1, 1, 0, 0}, [5]int{0, -1, 1, 0, 0}, [5]int{0, 1, 1, 0, 0}, [5]int{0, 1, 7, 0, 0}), countsOf([3]int{1, 1, 2})},
		// Of a record, only the stamp has to be valid.
		{recordsOf([5]int{8, 1, 1, 0, 0}, [5]int{-1, 1, 1, 0, 0}, [5]int{0, 1, 1, 100, 0}, [5]int{0, 1, 1, -1, 0}, [5]int{0, 1, 1, 0, 1000}, [5]int{0, 1, 1, 0, -1}), countsOf([3]int{1, 1, 6})},
	}
	for _, c := range cases {
		if got := impl.CountsOfRecords(c.list); !slices.Equal(got, c.want) {
			t.Errorf("CountsOfRecords(%v) = %v, want %v", c.list, got, c.want)
		}
	}
}

func TestCountsOfRecordsCountEveryValidStamp(t *testing.T) {
	var list []impl.Record
	var want []impl.Count
	for _, s := range allStamps() {
		// The stamps occur different numbers of times, those that are not valid at least once.
		times := max(s.Epoch+2*s.Turn, 0) + 1
		for key := range times {
			list = append(list, impl.Record{Stamp: s, Key: key})
		}
		if validStamp(s) {
			want = append(want, impl.Count{Stamp: s, N: times})
		}
	}
	for _, s := range farStamps() {
		if !validStamp(s) {
			list = append(list, impl.Record{Stamp: s})
		}
	}
	for range 2 {
		got := impl.CountsOfRecords(list)
		if !slices.Equal(got, want) {
			t.Errorf("the counts are %v, want %v", got, want)
		}
		if !impl.CountsOk(got) {
			t.Errorf("the counts %v are not a valid table", got)
		}
		slices.Reverse(list)
	}
}

func TestCountsOfRecordsAddUp(t *testing.T) {
	lists := append(longRecordLists(), shortRecordLists()[:60]...)
	for _, a := range lists {
		for _, b := range lists {
			sum, ok := impl.AddCounts(impl.CountsOfRecords(a), impl.CountsOfRecords(b))
			if got := impl.CountsOfRecords(slices.Concat(a, b)); !ok || !slices.Equal(got, sum) {
				t.Fatalf("the counts of %v and %v together are %v, want %v", a, b, got, sum)
			}
		}
	}
}

func TestCountsOfRecordsBeyondTheRangeOfATable(t *testing.T) {
	list := slices.Repeat(recordsOf([5]int{1, 2, 0, 17, 5}), 1000001)
	if got, want := impl.CountsOfRecords(list), countsOf([3]int{2, 0, 1000001}); !slices.Equal(got, want) {
		t.Errorf("CountsOfRecords of 1000001 records = %v, want %v", got, want)
	}
}

func TestOwnerOf(t *testing.T) {
	cases := []struct{ key, workers, want int }{
		{0, 3, 0}, {1, 3, 1}, {2, 3, 2}, {3, 3, 0}, {4, 3, 1}, {99, 4, 3}, {98, 2, 0},
		// Negative keys.
		{-1, 3, 2}, {-2, 3, 1}, {-3, 3, 0}, {-4, 3, 2}, {-6, 3, 0}, {-99, 4, 1}, {-1, 2, 1}, {-2, 2, 0},
		// One worker, none, and a negative number of workers.
		{0, 1, 0}, {7, 1, 0}, {-7, 1, 0}, {math.MinInt, 1, 0}, {math.MaxInt, 1, 0},
		{0, 0, 0}, {7, 0, 0}, {-7, 0, 0}, {math.MinInt, 0, 0}, {math.MaxInt, 0, 0},
		{0, -1, 0}, {7, -1, 0}, {-7, -1, 0}, {math.MinInt, -1, 0}, {math.MaxInt, -1, 0},
		{7, -3, 0}, {-7, -3, 0}, {7, math.MinInt, 0}, {-7, math.MinInt, 0}, {math.MinInt, math.MinInt, 0},
		// Both ends of the integers.
		{math.MaxInt, 2, 1}, {math.MaxInt, 3, 1}, {math.MaxInt, 4, 3}, {math.MaxInt, 10, 7},
		{math.MinInt, 2, 0}, {math.MinInt, 3, 1}, {math.MinInt, 4, 0}, {math.MinInt, 10, 2},
		{math.MaxInt, math.MaxInt, 0}, {math.MinInt, math.MaxInt, math.MaxInt - 1},
		{-1, math.MaxInt, math.MaxInt - 1}, {1, math.MaxInt, 1}, {math.MaxInt, math.MaxInt - 1, 1},
	}
	for _, c := range cases {
		if got := impl.OwnerOf(c.key, c.workers); got != c.want {
			t.Errorf("OwnerOf(%d, %d) = %d, want %d", c.key, c.workers, got, c.want)
		}
	}
}

func TestEachKeyHasExactlyOneOwner(t *testing.T) {
	for workers := 1; workers <= 9; workers++ {
		for key := -250; key <= 250; key++ {
			owner := impl.OwnerOf(key, workers)
			owners := 0
			for w := range workers {
				if (key-w)%workers == 0 {
					owners++
				}
				if (key-w)%workers == 0 != (w == owner) {
					t.Fatalf("OwnerOf(%d, %d) = %d, want another worker", key, workers, owner)
				}
			}
			if owners != 1 || owner < 0 || owner >= workers {
				t.Fatalf("OwnerOf(%d, %d) = %d, which is not one of the workers", key, workers, owner)
			}
		}
	}
}

func TestOwnerOfFarKeys(t *testing.T) {
	far := []int{math.MinInt, math.MinInt + 1, math.MinInt + 2, math.MinInt / 2, -1 << 32, -1000000007, -1, 0, 1, 4, 1 << 32, 1000000007, math.MaxInt / 2, math.MaxInt - 1, math.MaxInt}
	for _, key := range far {
		for _, workers := range far {
			want := 0
			if workers >= 1 {
				// Mod of big numbers is never negative.
				want = int(new(big.Int).Mod(big.NewInt(int64(key)), big.NewInt(int64(workers))).Int64())
			}
			if got := impl.OwnerOf(key, workers); got != want {
				t.Errorf("OwnerOf(%d, %d) = %d, want %d", key, workers, got, want)
			}
		}
	}
}

func TestRecordText(t *testing.T) {
	cases := []struct {
		r    impl.Record
		want string
	}{
		{impl.Record{}, "0:0.0:0:0"},
		{recordOf([5]int{1, 2, 0, 17, 5}), "1:2.0:17:5"},
		{recordOf([5]int{7, 3, 6, 99, 999}), "7:3.6:99:999"},
		{recordOf([5]int{1, 2, 3, 4, 5}), "1:2.3:4:5"},
		{recordOf([5]int{0, 1, 0, 10, 100}), "0:1.0:10:100"},
		// Records that are not valid, also with negative numbers.
		{recordOf([5]int{8, 4, 7, 100, 1000}), "8:4.7:100:1000"},
		{recordOf([5]int{-1, -2, -3, -4, -5}), "-1:-2.-3:-4:-5"},
		{recordOf([5]int{-1, 2, 0, 17, 5}), "-1:2.0:17:5"},
		{recordOf([5]int{1, 2, 0, -17, 5}), "1:2.0:-17:5"},
		{recordOf([5]int{1, 2, 0, 17, -5}), "1:2.0:17:-5"},
		{
			recordOf([5]int{math.MinInt, math.MaxInt, math.MinInt, math.MaxInt, math.MinInt}),
			"-9223372036854775808:9223372036854775807.-9223372036854775808:9223372036854775807:-9223372036854775808",
		},
	}
	for _, c := range cases {
		if got := impl.RecordText(c.r); got != c.want {
			t.Errorf("RecordText(%v) = %q, want %q", c.r, got, c.want)
		}
	}
}

// spareRecord is what the capacity behind a list holds; it is valid and of epoch 1, so that a function which reads it is found out too.
var spareRecord = impl.Record{Op: 5, Stamp: impl.Stamp{Epoch: 1, Turn: 1}, Key: 55, Val: 555}

func recordListsForMemory() [][]impl.Record {
	return [][]impl.Record{
		nil,
		{},
		recordsOf([5]int{1, 1, 0, 17, 5}),
		recordsOf([5]int{1, 2, 0, 17, 5}),
		// Sorted, and all of epoch 1.
		recordsOf([5]int{0, 1, 0, 1, 1}, [5]int{0, 1, 0, 1, 2}, [5]int{3, 1, 2, 0, 0}),
		// Not sorted, and all of epoch 1.
		recordsOf([5]int{3, 1, 2, 0, 0}, [5]int{0, 1, 0, 1, 2}, [5]int{0, 1, 0, 1, 1}),
		recordsOf([5]int{3, 1, 2, 0, 0}, [5]int{3, 1, 2, 0, 0}),
		// Those of epoch 1 are first, last and in between.
		recordsOf([5]int{0, 1, 0, 2, 2}, [5]int{0, 2, 0, 1, 1}, [5]int{0, 0, 0, 1, 1}),
		recordsOf([5]int{0, 2, 0, 1, 1}, [5]int{0, 0, 0, 1, 1}, [5]int{0, 1, 0, 2, 2}),
		recordsOf([5]int{0, 2, 0, 1, 1}, [5]int{0, 1, 0, 2, 2}, [5]int{0, 0, 0, 1, 1}, [5]int{0, 1, 0, 1, 1}, [5]int{0, 3, 0, 1, 1}),
		// Not valid.
		recordsOf([5]int{8, 4, 7, 100, 1000}, [5]int{-1, -1, -1, -1, -1}),
		plainSorted(gridRecords(0, 1)),
		longRecordLists()[2],
	}
}

func TestRecordsDoNotChangeTheirLists(t *testing.T) {
	calls := []struct {
		name string
		call func(a []impl.Record, b []impl.Record)
	}{
		{"SortRecords", func(a []impl.Record, b []impl.Record) { impl.SortRecords(a) }},
		{"SameBag", func(a []impl.Record, b []impl.Record) { impl.SameBag(a, b) }},
		{"OfEpoch 1", func(a []impl.Record, b []impl.Record) { impl.OfEpoch(a, 1) }},
		{"OfEpoch 2", func(a []impl.Record, b []impl.Record) { impl.OfEpoch(a, 2) }},
		{"OfEpoch 9", func(a []impl.Record, b []impl.Record) { impl.OfEpoch(a, 9) }},
		{"CountsOfRecords", func(a []impl.Record, b []impl.Record) { impl.CountsOfRecords(a) }},
	}
	for _, a := range recordListsForMemory() {
		for _, b := range recordListsForMemory() {
			for _, c := range calls {
				checkUnchanged(t, c.name, a, b, spareRecord, c.call)
			}
		}
	}
}

func TestRecordsShareNoMemoryWithTheirLists(t *testing.T) {
	mark := recordOf([5]int{77, 77, 77, 77, 77})
	ofEpoch := func(epoch int) func(a []impl.Record, b []impl.Record) []impl.Record {
		return func(a []impl.Record, b []impl.Record) []impl.Record { return impl.OfEpoch(a, epoch) }
	}
	results := []struct {
		name string
		of   func(a []impl.Record, b []impl.Record) []impl.Record
	}{
		{"SortRecords", func(a []impl.Record, b []impl.Record) []impl.Record { return impl.SortRecords(a) }},
		{"OfEpoch 1", ofEpoch(1)},
		{"OfEpoch 2", ofEpoch(2)},
		{"OfEpoch 9", ofEpoch(9)},
	}
	for _, a := range recordListsForMemory() {
		for _, r := range results {
			checkNewMemory(t, r.name, a, nil, spareRecord, mark, r.of)
		}
	}
}

func TestCountsOfRecordsReturnNewMemory(t *testing.T) {
	for _, list := range recordListsForMemory() {
		roomy := roomyList(list, spareRecord)
		first, second := impl.CountsOfRecords(roomy), impl.CountsOfRecords(slices.Clip(list))
		if !slices.Equal(first, second) {
			t.Errorf("the counts of %v depend on what is behind it", list)
		}
		kept := slices.Clone(first)
		overwrite(second, spareCount)
		overwrite(roomy, spareRecord)
		if !slices.Equal(first, kept) {
			t.Errorf("the counts of %v changed later", list)
		}
	}
}

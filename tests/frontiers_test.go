package tests

import (
	"math"
	"slices"
	"testing"

	"loop.example/g00973/impl"
)

// stampsOf builds a list from pairs of an epoch and a turn.
func stampsOf(pairs ...[2]int) []impl.Stamp {
	var list []impl.Stamp
	for _, p := range pairs {
		list = append(list, impl.Stamp{Epoch: p[0], Turn: p[1]})
	}
	return list
}

// shortLists returns every list of at most three stamps whose numbers are -1, 0 or 1, in every order and with every duplicate.
func shortLists() [][]impl.Stamp {
	lists := [][]impl.Stamp{nil}
	for at := 0; at < len(lists); at++ {
		if len(lists[at]) == 3 {
			break
		}
		for epoch := -1; epoch <= 1; epoch++ {
			for turn := -1; turn <= 1; turn++ {
				lists = append(lists, append(slices.Clone(lists[at]), impl.Stamp{Epoch: epoch, Turn: turn}))
			}
		}
	}
	return lists
}

// longLists returns lists that are too long for the short way of a sort routine, in mixed orders.
func longLists() [][]impl.Stamp {
	var lists [][]impl.Stamp
	all := allStamps()
	for _, least := range []int{-2, 0, 1, 3, 5, 7, 9} {
		for _, stride := range []int{1, 7, 29, 85} {
			var list []impl.Stamp
			for at := range 2 * len(all) {
				s := all[(at*stride+least+2)%len(all)]
				if s.Epoch+s.Turn >= least {
					list = append(list, s)
				}
			}
			lists = append(lists, list)
		}
	}
	return lists
}

// leq states the partial order again, so that a fault in StampLeq cannot hide one in the frontiers.
func leq(a impl.Stamp, b impl.Stamp) bool {
	return a.Epoch <= b.Epoch && a.Turn <= b.Turn
}

func someLeq(list []impl.Stamp, s impl.Stamp) bool {
	return slices.ContainsFunc(list, func(f impl.Stamp) bool { return leq(f, s) })
}

// plainMinimal follows the words of the document: for each stamp it looks for another one below, and then inserts it at its place.
func plainMinimal(list []impl.Stamp) []impl.Stamp {
	var front []impl.Stamp
	for _, s := range list {
		other := func(o impl.Stamp) bool { return o != s && leq(o, s) }
		if slices.ContainsFunc(list, other) || slices.Contains(front, s) {
			continue
		}
		at := 0
		for at < len(front) && (front[at].Epoch < s.Epoch || front[at].Epoch == s.Epoch && front[at].Turn < s.Turn) {
			at++
		}
		front = slices.Insert(front, at, s)
	}
	return front
}

func TestMinimal(t *testing.T) {
	cases := []struct{ list, want []impl.Stamp }{
		{nil, nil},
		{[]impl.Stamp{}, nil},
		{stampsOf([2]int{2, 3}), stampsOf([2]int{2, 3})},
		{stampsOf([2]int{0, 0}), stampsOf([2]int{0, 0})},
		// One stamp is below the others.
		{stampsOf([2]int{1, 1}, [2]int{1, 2}, [2]int{2, 1}, [2]int{3, 6}), stampsOf([2]int{1, 1})},
		{stampsOf([2]int{3, 6}, [2]int{2, 1}, [2]int{1, 2}, [2]int{1, 1}), stampsOf([2]int{1, 1})},
		{stampsOf([2]int{1, 2}, [2]int{1, 1}), stampsOf([2]int{1, 1})},
		{stampsOf([2]int{2, 1}, [2]int{1, 1}), stampsOf([2]int{1, 1})},
		// Stamps that are not comparable all stay, in ascending order.
		{stampsOf([2]int{0, 3}, [2]int{1, 2}, [2]int{2, 1}), stampsOf([2]int{0, 3}, [2]int{1, 2}, [2]int{2, 1})},
		{stampsOf([2]int{2, 1}, [2]int{0, 3}, [2]int{1, 2}), stampsOf([2]int{0, 3}, [2]int{1, 2}, [2]int{2, 1})},
		{stampsOf([2]int{3, 0}, [2]int{0, 6}), stampsOf([2]int{0, 6}, [2]int{3, 0})},
		// Some are comparable.
		{stampsOf([2]int{2, 4}, [2]int{3, 1}, [2]int{1, 4}, [2]int{0, 5}, [2]int{3, 0}), stampsOf([2]int{0, 5}, [2]int{1, 4}, [2]int{3, 0})},
		// A duplicate is no other stamp, and occurs once.
		{stampsOf([2]int{1, 1}, [2]int{1, 1}), stampsOf([2]int{1, 1})},
		{stampsOf([2]int{1, 0}, [2]int{0, 3}, [2]int{1, 0}, [2]int{0, 3}), stampsOf([2]int{0, 3}, [2]int{1, 0})},
		{stampsOf([2]int{1, 0}, [2]int{1, 1}, [2]int{0, 3}, [2]int{1, 0}), stampsOf([2]int{0, 3}, [2]int{1, 0})},
		{stampsOf([2]int{2, 2}, [2]int{1, 1}, [2]int{2, 2}), stampsOf([2]int{1, 1})},
		// Stamps that are not valid are compared as the others are.
		{stampsOf([2]int{-1, 9}, [2]int{9, -1}, [2]int{0, 0}), stampsOf([2]int{-1, 9}, [2]int{0, 0}, [2]int{9, -1})},
		{stampsOf([2]int{0, 0}, [2]int{-1, -1}), stampsOf([2]int{-1, -1})},
		{stampsOf([2]int{4, 7}, [2]int{3, 6}), stampsOf([2]int{3, 6})},
		{stampsOf([2]int{4, 7}, [2]int{4, 7}), stampsOf([2]int{4, 7})},
		{
			stampsOf([2]int{math.MaxInt, math.MinInt}, [2]int{0, 0}, [2]int{math.MinInt, math.MaxInt}),
			stampsOf([2]int{math.MinInt, math.MaxInt}, [2]int{0, 0}, [2]int{math.MaxInt, math.MinInt}),
		},
		{stampsOf([2]int{math.MaxInt, math.MaxInt}, [2]int{math.MinInt, math.MinInt}), stampsOf([2]int{math.MinInt, math.MinInt})},
	}
	for _, c := range cases {
		if got := impl.Minimal(c.list); !slices.Equal(got, c.want) {
			t.Errorf("Minimal(%v) = %v, want %v", c.list, got, c.want)
		}
	}
}

func TestMinimalOfManyLists(t *testing.T) {
	lists := append(shortLists(), longLists()...)
	lists = append(lists, allStamps(), farStamps())
	for _, list := range lists {
		if got, want := impl.Minimal(list), plainMinimal(list); !slices.Equal(got, want) {
			t.Fatalf("Minimal(%v) = %v, want %v", list, got, want)
		}
	}
}

func TestFrontierIsAnAntichain(t *testing.T) {
	for _, list := range append(shortLists(), longLists()...) {
		front := impl.Minimal(list)
		for i, a := range front {
			if !slices.Contains(list, a) {
				t.Fatalf("Minimal(%v) = %v has %v, which the list lacks", list, front, a)
			}
			for j, b := range front {
				if i != j && leq(a, b) {
					t.Fatalf("Minimal(%v) = %v has %v below %v", list, front, a, b)
				}
			}
		}
	}
}

func TestFrontierIsBelowWhatTheListIsBelow(t *testing.T) {
	all := append(allStamps(), farStamps()...)
	for _, list := range append(shortLists(), longLists()...) {
		front := impl.Minimal(list)
		for _, s := range all {
			want := someLeq(list, s)
			if got := impl.Ahead(list, s); got != want {
				t.Fatalf("Ahead(%v, %v) = %v, want %v", list, s, got, want)
			}
			if got := impl.Ahead(front, s); got != want {
				t.Fatalf("Ahead(%v, %v) = %v, want %v as for %v", front, s, got, want, list)
			}
		}
	}
}

func TestFrontierOk(t *testing.T) {
	cases := []struct {
		list []impl.Stamp
		want bool
	}{
		{nil, true},
		{[]impl.Stamp{}, true},
		{stampsOf([2]int{0, 0}), true},
		{stampsOf([2]int{3, 6}), true},
		{stampsOf([2]int{0, 3}, [2]int{1, 0}), true},
		{stampsOf([2]int{0, 6}, [2]int{1, 4}, [2]int{2, 3}, [2]int{3, 0}), true},
		// Comparable stamps.
		{stampsOf([2]int{1, 0}, [2]int{1, 1}), false},
		{stampsOf([2]int{1, 1}, [2]int{2, 1}), false},
		{stampsOf([2]int{0, 3}, [2]int{1, 0}, [2]int{2, 5}), false},
		// Another order.
		{stampsOf([2]int{1, 0}, [2]int{0, 3}), false},
		{stampsOf([2]int{0, 6}, [2]int{2, 3}, [2]int{1, 4}), false},
		// A duplicate.
		{stampsOf([2]int{1, 1}, [2]int{1, 1}), false},
		{stampsOf([2]int{0, 3}, [2]int{1, 0}, [2]int{1, 0}), false},
		{stampsOf([2]int{0, 3}, [2]int{0, 3}, [2]int{1, 0}), false},
		// Lists that equal Minimal of themselves, with a stamp that is not valid.
		{stampsOf([2]int{4, 0}), false},
		{stampsOf([2]int{0, 7}), false},
		{stampsOf([2]int{-1, 0}), false},
		{stampsOf([2]int{0, -1}), false},
		{stampsOf([2]int{-1, 3}, [2]int{1, 0}), false},
		{stampsOf([2]int{0, 7}, [2]int{1, 0}), false},
		{stampsOf([2]int{0, 3}, [2]int{4, 0}), false},
		{stampsOf([2]int{0, 3}, [2]int{1, -1}), false},
		{stampsOf([2]int{0, 5}, [2]int{4, 2}, [2]int{5, 1}), false},
		{stampsOf([2]int{math.MinInt, math.MaxInt}, [2]int{math.MaxInt, math.MinInt}), false},
	}
	for _, c := range cases {
		if got := impl.FrontierOk(c.list); got != c.want {
			t.Errorf("FrontierOk(%v) = %v, want %v", c.list, got, c.want)
		}
	}
}

func TestFrontierOkOfManyLists(t *testing.T) {
	for _, list := range append(shortLists(), longLists()...) {
		front := impl.Minimal(list)
		for _, candidate := range [][]impl.Stamp{list, front} {
			want := slices.Equal(candidate, plainMinimal(candidate))
			for _, s := range candidate {
				want = want && s.Epoch >= 0 && s.Epoch <= 3 && s.Turn >= 0 && s.Turn <= 6
			}
			if got := impl.FrontierOk(candidate); got != want {
				t.Fatalf("FrontierOk(%v) = %v, want %v", candidate, got, want)
			}
		}
	}
}

func TestAhead(t *testing.T) {
	front := stampsOf([2]int{0, 4}, [2]int{1, 2}, [2]int{3, 0})
	cases := []struct {
		frontier []impl.Stamp
		s        impl.Stamp
		want     bool
	}{
		{nil, impl.Stamp{}, false},
		{[]impl.Stamp{}, impl.Stamp{Epoch: 3, Turn: 6}, false},
		{nil, impl.Stamp{Epoch: math.MaxInt, Turn: math.MaxInt}, false},
		// A stamp of the frontier itself.
		{front, impl.Stamp{Epoch: 0, Turn: 4}, true},
		{front, impl.Stamp{Epoch: 1, Turn: 2}, true},
		{front, impl.Stamp{Epoch: 3, Turn: 0}, true},
		// Next to one.
		{front, impl.Stamp{Epoch: 0, Turn: 3}, false},
		{front, impl.Stamp{Epoch: 0, Turn: 5}, true},
		{front, impl.Stamp{Epoch: 1, Turn: 1}, false},
		{front, impl.Stamp{Epoch: 1, Turn: 3}, true},
		{front, impl.Stamp{Epoch: 2, Turn: 2}, true},
		{front, impl.Stamp{Epoch: 2, Turn: 0}, false},
		{front, impl.Stamp{Epoch: 2, Turn: 1}, false},
		{front, impl.Stamp{Epoch: 3, Turn: 1}, true},
		{front, impl.Stamp{}, false},
		{front, impl.Stamp{Epoch: 3, Turn: 6}, true},
		// Lists that are no frontiers.
		{stampsOf([2]int{2, 2}, [2]int{1, 1}, [2]int{1, 1}), impl.Stamp{Epoch: 1, Turn: 2}, true},
		{stampsOf([2]int{1, 1}, [2]int{2, 2}), impl.Stamp{Epoch: 1, Turn: 2}, true},
		{stampsOf([2]int{2, 2}, [2]int{1, 3}), impl.Stamp{Epoch: 1, Turn: 2}, false},
		// Stamps that are not valid.
		{stampsOf([2]int{-1, -1}), impl.Stamp{}, true},
		{stampsOf([2]int{0, 0}), impl.Stamp{Epoch: -1, Turn: 0}, false},
		{stampsOf([2]int{0, 0}), impl.Stamp{Epoch: 0, Turn: -1}, false},
		{stampsOf([2]int{0, 0}), impl.Stamp{Epoch: 4, Turn: 7}, true},
		{stampsOf([2]int{4, 7}), impl.Stamp{Epoch: 4, Turn: 7}, true},
		{stampsOf([2]int{math.MinInt, 0}), impl.Stamp{Epoch: math.MaxInt, Turn: 0}, true},
		{stampsOf([2]int{math.MaxInt, 0}), impl.Stamp{Epoch: math.MinInt, Turn: 0}, false},
	}
	for _, c := range cases {
		if got := impl.Ahead(c.frontier, c.s); got != c.want {
			t.Errorf("Ahead(%v, %v) = %v, want %v", c.frontier, c.s, got, c.want)
		}
	}
}

func TestMergeFronts(t *testing.T) {
	front := stampsOf([2]int{0, 3}, [2]int{1, 0})
	cases := []struct{ a, b, want []impl.Stamp }{
		{nil, nil, nil},
		{nil, []impl.Stamp{}, nil},
		{front, nil, front},
		{nil, front, front},
		{[]impl.Stamp{}, front, front},
		{front, front, front},
		{front, stampsOf([2]int{0, 0}), stampsOf([2]int{0, 0})},
		{front, stampsOf([2]int{2, 5}), front},
		{front, stampsOf([2]int{0, 1}), stampsOf([2]int{0, 1}, [2]int{1, 0})},
		{stampsOf([2]int{0, 5}, [2]int{2, 1}), stampsOf([2]int{1, 3}, [2]int{3, 0}), stampsOf([2]int{0, 5}, [2]int{1, 3}, [2]int{2, 1}, [2]int{3, 0})},
		{stampsOf([2]int{0, 5}, [2]int{2, 1}), stampsOf([2]int{0, 4}, [2]int{2, 2}), stampsOf([2]int{0, 4}, [2]int{2, 1})},
		// Lists that are no frontiers become minimal too, also beside an empty list.
		{stampsOf([2]int{2, 2}, [2]int{1, 0}, [2]int{0, 3}, [2]int{1, 0}), nil, front},
		{nil, stampsOf([2]int{2, 2}, [2]int{1, 0}, [2]int{0, 3}, [2]int{1, 0}), front},
		{stampsOf([2]int{1, 1}, [2]int{1, 1}), stampsOf([2]int{1, 1}), stampsOf([2]int{1, 1})},
		// Stamps that are not valid.
		{stampsOf([2]int{-1, 9}), stampsOf([2]int{9, -1}), stampsOf([2]int{-1, 9}, [2]int{9, -1})},
		{front, stampsOf([2]int{-1, -1}), stampsOf([2]int{-1, -1})},
		{front, stampsOf([2]int{4, 7}), front},
		{stampsOf([2]int{math.MaxInt, math.MinInt}), stampsOf([2]int{math.MinInt, math.MaxInt}), stampsOf([2]int{math.MinInt, math.MaxInt}, [2]int{math.MaxInt, math.MinInt})},
	}
	for _, c := range cases {
		if got := impl.MergeFronts(c.a, c.b); !slices.Equal(got, c.want) {
			t.Errorf("MergeFronts(%v, %v) = %v, want %v", c.a, c.b, got, c.want)
		}
		if got := impl.MergeFronts(c.b, c.a); !slices.Equal(got, c.want) {
			t.Errorf("MergeFronts(%v, %v) = %v, want %v", c.b, c.a, got, c.want)
		}
	}
}

func TestFunctionsOfTwoListsOnManyLists(t *testing.T) {
	lists := shortLists()
	for i, a := range lists {
		// Every list as a, but only some partners for each, so that the test stays short; the shift makes all of them partners.
		for j := i % 11; j < len(lists); j += 11 {
			b := lists[j]
			if got, want := impl.MergeFronts(a, b), plainMinimal(slices.Concat(a, b)); !slices.Equal(got, want) {
				t.Fatalf("MergeFronts(%v, %v) = %v, want %v", a, b, got, want)
			}
			below := !slices.ContainsFunc(b, func(s impl.Stamp) bool { return !someLeq(a, s) })
			if got := impl.FrontLeq(a, b); got != below {
				t.Fatalf("FrontLeq(%v, %v) = %v, want %v", a, b, got, below)
			}
			if got := impl.SameFront(a, b); got != (i == j) {
				t.Fatalf("SameFront(%v, %v) = %v, want %v", a, b, got, i == j)
			}
		}
	}
}

func TestFrontLeq(t *testing.T) {
	front := stampsOf([2]int{0, 3}, [2]int{1, 0})
	cases := []struct {
		a, b []impl.Stamp
		want bool
	}{
		{nil, nil, true},
		{nil, []impl.Stamp{}, true},
		{front, nil, true},
		{front, []impl.Stamp{}, true},
		{nil, front, false},
		{[]impl.Stamp{}, stampsOf([2]int{3, 6}), false},
		{front, front, true},
		{stampsOf([2]int{0, 0}), front, true},
		{front, stampsOf([2]int{0, 0}), false},
		{front, stampsOf([2]int{0, 4}, [2]int{1, 3}, [2]int{2, 0}), true},
		// One stamp of b that is not ahead is enough, wherever it is.
		{front, stampsOf([2]int{0, 2}, [2]int{1, 0}), false},
		{front, stampsOf([2]int{1, 0}, [2]int{0, 2}), false},
		{front, stampsOf([2]int{1, 0}, [2]int{0, 2}, [2]int{1, 0}), false},
		// Neither is below the other.
		{stampsOf([2]int{0, 3}), stampsOf([2]int{1, 0}), false},
		{stampsOf([2]int{1, 0}), stampsOf([2]int{0, 3}), false},
		// Different stamps of a may be below different stamps of b.
		{stampsOf([2]int{1, 0}, [2]int{0, 3}), stampsOf([2]int{0, 3}, [2]int{1, 0}), true},
		// Stamps that are not valid.
		{stampsOf([2]int{-1, -1}), front, true},
		{front, stampsOf([2]int{-1, -1}), false},
		{front, stampsOf([2]int{4, 7}), true},
		{stampsOf([2]int{4, 7}), stampsOf([2]int{4, 7}), true},
	}
	for _, c := range cases {
		if got := impl.FrontLeq(c.a, c.b); got != c.want {
			t.Errorf("FrontLeq(%v, %v) = %v, want %v", c.a, c.b, got, c.want)
		}
	}
}

func TestSameFront(t *testing.T) {
	front := stampsOf([2]int{0, 3}, [2]int{1, 0})
	cases := []struct {
		a, b []impl.Stamp
		want bool
	}{
		{nil, nil, true},
		{nil, []impl.Stamp{}, true},
		{front, slices.Clone(front), true},
		// Different lengths.
		{front, nil, false},
		{front, stampsOf([2]int{0, 3}), false},
		{front, stampsOf([2]int{1, 0}), false},
		{front, stampsOf([2]int{0, 3}, [2]int{1, 0}, [2]int{2, 0}), false},
		{front, stampsOf([2]int{0, 3}, [2]int{1, 0}, [2]int{1, 0}), false},
		{stampsOf([2]int{0, 0}), nil, false},
		// The same stamps in another order.
		{front, stampsOf([2]int{1, 0}, [2]int{0, 3}), false},
		// One number differs.
		{front, stampsOf([2]int{0, 3}, [2]int{1, 1}), false},
		{front, stampsOf([2]int{0, 3}, [2]int{2, 0}), false},
		{front, stampsOf([2]int{0, 4}, [2]int{1, 0}), false},
		{front, stampsOf([2]int{-1, 3}, [2]int{1, 0}), false},
		// Lists that are no frontiers are compared as they are.
		{stampsOf([2]int{1, 1}, [2]int{0, 0}), stampsOf([2]int{0, 0}), false},
		{stampsOf([2]int{1, 1}, [2]int{1, 1}), stampsOf([2]int{1, 1}, [2]int{1, 1}), true},
		{stampsOf([2]int{-9, 99}), stampsOf([2]int{-9, 99}), true},
		{stampsOf([2]int{-9, 99}), stampsOf([2]int{-9, 98}), false},
	}
	for _, c := range cases {
		if got := impl.SameFront(c.a, c.b); got != c.want {
			t.Errorf("SameFront(%v, %v) = %v, want %v", c.a, c.b, got, c.want)
		}
		if got := impl.SameFront(c.b, c.a); got != c.want {
			t.Errorf("SameFront(%v, %v) = %v, want %v", c.b, c.a, got, c.want)
		}
	}
}

func TestEpochOver(t *testing.T) {
	front := stampsOf([2]int{1, 4}, [2]int{2, 2}, [2]int{3, 0})
	cases := []struct {
		frontier []impl.Stamp
		epoch    int
		want     bool
	}{
		{nil, 0, true},
		{[]impl.Stamp{}, 3, true},
		{nil, math.MaxInt, true},
		{nil, math.MinInt, true},
		{front, 0, true},
		{front, 1, false},
		{front, 2, false},
		{front, 3, false},
		{front, 4, false},
		{front, -1, true},
		{stampsOf([2]int{3, 6}), 2, true},
		{stampsOf([2]int{3, 6}), 3, false},
		// The turn has no say.
		{stampsOf([2]int{2, 0}), 1, true},
		{stampsOf([2]int{2, 0}), 2, false},
		// The stamp with the least epoch may be anywhere in a list that is no frontier.
		{stampsOf([2]int{3, 0}, [2]int{1, 4}), 1, false},
		{stampsOf([2]int{3, 0}, [2]int{1, 4}, [2]int{2, 2}), 1, false},
		{stampsOf([2]int{3, 0}, [2]int{3, 0}), 2, true},
		// Epochs and stamps that are not valid.
		{stampsOf([2]int{-1, 0}), -1, false},
		{stampsOf([2]int{-1, 0}), -2, true},
		{stampsOf([2]int{5, -9}), 4, true},
		{stampsOf([2]int{5, -9}), 5, false},
		{stampsOf([2]int{math.MinInt, 0}), math.MinInt, false},
		{stampsOf([2]int{math.MaxInt, 0}), math.MinInt, true},
		{stampsOf([2]int{math.MinInt, 0}), math.MaxInt, false},
		{stampsOf([2]int{math.MaxInt, 0}), math.MaxInt, false},
		{stampsOf([2]int{math.MaxInt, 0}), math.MaxInt - 1, true},
	}
	for _, c := range cases {
		if got := impl.EpochOver(c.frontier, c.epoch); got != c.want {
			t.Errorf("EpochOver(%v, %d) = %v, want %v", c.frontier, c.epoch, got, c.want)
		}
	}
}

// spare is what the capacity behind a list of stamps holds; it is below every stamp of the lists, so that a function which reads it is found out too.
var spare = impl.Stamp{Epoch: -50, Turn: -50}

func listsForMemory() [][]impl.Stamp {
	return [][]impl.Stamp{
		nil,
		stampsOf([2]int{1, 1}),
		stampsOf([2]int{0, 3}, [2]int{1, 0}),
		stampsOf([2]int{1, 0}, [2]int{0, 3}),
		stampsOf([2]int{2, 2}, [2]int{1, 0}, [2]int{0, 3}, [2]int{1, 0}),
		stampsOf([2]int{3, 6}, [2]int{-1, 9}, [2]int{9, -1}),
		longLists()[5],
	}
}

func TestFrontiersDoNotChangeTheirLists(t *testing.T) {
	for _, a := range listsForMemory() {
		for _, b := range listsForMemory() {
			s := impl.Stamp{Epoch: 1, Turn: 1}
			calls := []struct {
				name string
				call func(a []impl.Stamp, b []impl.Stamp)
			}{
				{"Minimal", func(a []impl.Stamp, b []impl.Stamp) { impl.Minimal(a) }},
				{"FrontierOk", func(a []impl.Stamp, b []impl.Stamp) { impl.FrontierOk(a) }},
				{"Ahead", func(a []impl.Stamp, b []impl.Stamp) { impl.Ahead(a, s) }},
				{"MergeFronts", func(a []impl.Stamp, b []impl.Stamp) { impl.MergeFronts(a, b) }},
				{"FrontLeq", func(a []impl.Stamp, b []impl.Stamp) { impl.FrontLeq(a, b) }},
				{"SameFront", func(a []impl.Stamp, b []impl.Stamp) { impl.SameFront(a, b) }},
				{"EpochOver", func(a []impl.Stamp, b []impl.Stamp) { impl.EpochOver(a, 1) }},
			}
			for _, c := range calls {
				checkUnchanged(t, c.name, a, b, spare, c.call)
			}
		}
	}
}

func TestFrontiersShareNoMemoryWithTheirLists(t *testing.T) {
	mark := impl.Stamp{Epoch: 77, Turn: 77}
	for _, a := range listsForMemory() {
		for _, b := range listsForMemory() {
			results := []struct {
				name string
				of   func(a []impl.Stamp, b []impl.Stamp) []impl.Stamp
			}{
				{"Minimal", func(a []impl.Stamp, b []impl.Stamp) []impl.Stamp { return impl.Minimal(a) }},
				{"MergeFronts", impl.MergeFronts},
			}
			for _, r := range results {
				checkNewMemory(t, r.name, a, b, spare, mark, r.of)
			}
		}
	}
}

package tests

import (
	"math"
	"testing"

	"loop.example/g00973/impl"
)

// allStamps returns every stamp whose numbers reach from two below the limits to two above them, so that it holds all valid stamps and invalid ones on every side.
func allStamps() []impl.Stamp {
	var list []impl.Stamp
	for epoch := -2; epoch <= impl.MaxEpoch+2; epoch++ {
		for turn := -2; turn <= impl.MaxTurn+2; turn++ {
			list = append(list, impl.Stamp{Epoch: epoch, Turn: turn})
		}
	}
	return list
}

// farStamps returns stamps at the ends of the integers, where a subtraction or an increment would wrap around.
func farStamps() []impl.Stamp {
	var list []impl.Stamp
	for _, epoch := range []int{math.MinInt, 0, math.MaxInt} {
		for _, turn := range []int{math.MinInt, 0, math.MaxInt} {
			list = append(list, impl.Stamp{Epoch: epoch, Turn: turn})
		}
	}
	return list
}

func TestLimitsOfStamps(t *testing.T) {
	if impl.MaxEpoch != 3 || impl.MaxTurn != 6 {
		t.Errorf("limits are %d and %d, want 3 and 6", impl.MaxEpoch, impl.MaxTurn)
	}
}

func TestStampOk(t *testing.T) {
	cases := []struct {
		s    impl.Stamp
		want bool
	}{
		{impl.Stamp{}, true},
		{impl.Stamp{Epoch: 1, Turn: 2}, true},
		{impl.Stamp{Epoch: 3, Turn: 0}, true},
		{impl.Stamp{Epoch: 0, Turn: 6}, true},
		{impl.Stamp{Epoch: 3, Turn: 6}, true},
		{impl.Stamp{Epoch: 4, Turn: 0}, false},
		{impl.Stamp{Epoch: 0, Turn: 7}, false},
		{impl.Stamp{Epoch: 4, Turn: 7}, false},
		{impl.Stamp{Epoch: 6, Turn: 3}, false},
		{impl.Stamp{Epoch: -1, Turn: 0}, false},
		{impl.Stamp{Epoch: 0, Turn: -1}, false},
		{impl.Stamp{Epoch: -1, Turn: -1}, false},
		{impl.Stamp{Epoch: math.MinInt, Turn: 0}, false},
		{impl.Stamp{Epoch: math.MaxInt, Turn: 0}, false},
		{impl.Stamp{Epoch: 0, Turn: math.MinInt}, false},
		{impl.Stamp{Epoch: 0, Turn: math.MaxInt}, false},
	}
	for _, c := range cases {
		if got := impl.StampOk(c.s); got != c.want {
			t.Errorf("StampOk(%v) = %v, want %v", c.s, got, c.want)
		}
	}
	valid := 0
	for _, s := range allStamps() {
		if impl.StampOk(s) {
			valid++
		}
	}
	if valid != 28 {
		t.Errorf("%d stamps are valid, want 28", valid)
	}
}

func TestStampLeq(t *testing.T) {
	cases := []struct {
		a, b impl.Stamp
		want bool
	}{
		{impl.Stamp{Epoch: 1, Turn: 2}, impl.Stamp{Epoch: 1, Turn: 2}, true},
		{impl.Stamp{Epoch: 1, Turn: 2}, impl.Stamp{Epoch: 1, Turn: 3}, true},
		{impl.Stamp{Epoch: 1, Turn: 2}, impl.Stamp{Epoch: 2, Turn: 2}, true},
		{impl.Stamp{Epoch: 1, Turn: 2}, impl.Stamp{Epoch: 3, Turn: 6}, true},
		{impl.Stamp{Epoch: 1, Turn: 3}, impl.Stamp{Epoch: 1, Turn: 2}, false},
		{impl.Stamp{Epoch: 2, Turn: 2}, impl.Stamp{Epoch: 1, Turn: 2}, false},
		{impl.Stamp{Epoch: 1, Turn: 2}, impl.Stamp{Epoch: 2, Turn: 1}, false},
		{impl.Stamp{Epoch: 2, Turn: 1}, impl.Stamp{Epoch: 1, Turn: 2}, false},
		{impl.Stamp{Epoch: -1, Turn: -5}, impl.Stamp{Epoch: 0, Turn: -5}, true},
		{impl.Stamp{Epoch: 9, Turn: 9}, impl.Stamp{Epoch: 8, Turn: 9}, false},
		{impl.Stamp{Epoch: math.MinInt, Turn: 0}, impl.Stamp{Epoch: math.MaxInt, Turn: 0}, true},
		{impl.Stamp{Epoch: 0, Turn: math.MaxInt}, impl.Stamp{Epoch: 0, Turn: math.MinInt}, false},
	}
	for _, c := range cases {
		if got := impl.StampLeq(c.a, c.b); got != c.want {
			t.Errorf("StampLeq(%v, %v) = %v, want %v", c.a, c.b, got, c.want)
		}
	}
}

func TestStampMeetAndJoin(t *testing.T) {
	cases := []struct{ a, b, meet, join impl.Stamp }{
		{impl.Stamp{}, impl.Stamp{}, impl.Stamp{}, impl.Stamp{}},
		{impl.Stamp{Epoch: 1, Turn: 2}, impl.Stamp{Epoch: 2, Turn: 1}, impl.Stamp{Epoch: 1, Turn: 1}, impl.Stamp{Epoch: 2, Turn: 2}},
		{impl.Stamp{Epoch: 0, Turn: 6}, impl.Stamp{Epoch: 3, Turn: 0}, impl.Stamp{}, impl.Stamp{Epoch: 3, Turn: 6}},
		{impl.Stamp{Epoch: 1, Turn: 2}, impl.Stamp{Epoch: 3, Turn: 5}, impl.Stamp{Epoch: 1, Turn: 2}, impl.Stamp{Epoch: 3, Turn: 5}},
		{impl.Stamp{Epoch: 2, Turn: 4}, impl.Stamp{Epoch: 2, Turn: 1}, impl.Stamp{Epoch: 2, Turn: 1}, impl.Stamp{Epoch: 2, Turn: 4}},
		{impl.Stamp{Epoch: 3, Turn: 4}, impl.Stamp{Epoch: 1, Turn: 4}, impl.Stamp{Epoch: 1, Turn: 4}, impl.Stamp{Epoch: 3, Turn: 4}},
		{impl.Stamp{Epoch: -3, Turn: 9}, impl.Stamp{Epoch: 8, Turn: -7}, impl.Stamp{Epoch: -3, Turn: -7}, impl.Stamp{Epoch: 8, Turn: 9}},
		{impl.Stamp{Epoch: 5, Turn: -1}, impl.Stamp{Epoch: 7, Turn: -2}, impl.Stamp{Epoch: 5, Turn: -2}, impl.Stamp{Epoch: 7, Turn: -1}},
		{
			impl.Stamp{Epoch: math.MinInt, Turn: math.MaxInt}, impl.Stamp{Epoch: math.MaxInt, Turn: math.MinInt},
			impl.Stamp{Epoch: math.MinInt, Turn: math.MinInt}, impl.Stamp{Epoch: math.MaxInt, Turn: math.MaxInt},
		},
	}
	for _, c := range cases {
		if got := impl.StampMeet(c.a, c.b); got != c.meet {
			t.Errorf("StampMeet(%v, %v) = %v, want %v", c.a, c.b, got, c.meet)
		}
		if got := impl.StampMeet(c.b, c.a); got != c.meet {
			t.Errorf("StampMeet(%v, %v) = %v, want %v", c.b, c.a, got, c.meet)
		}
		if got := impl.StampJoin(c.a, c.b); got != c.join {
			t.Errorf("StampJoin(%v, %v) = %v, want %v", c.a, c.b, got, c.join)
		}
		if got := impl.StampJoin(c.b, c.a); got != c.join {
			t.Errorf("StampJoin(%v, %v) = %v, want %v", c.b, c.a, got, c.join)
		}
	}
}

func TestStampMeetIsTheGreatestLowerBound(t *testing.T) {
	all := append(allStamps(), farStamps()...)
	for _, a := range all {
		for _, b := range all {
			meet := impl.StampMeet(a, b)
			if !impl.StampLeq(meet, a) || !impl.StampLeq(meet, b) {
				t.Fatalf("StampMeet(%v, %v) = %v is no lower bound", a, b, meet)
			}
			for _, c := range all {
				if impl.StampLeq(c, a) && impl.StampLeq(c, b) && !impl.StampLeq(c, meet) {
					t.Fatalf("StampMeet(%v, %v) = %v is not above the lower bound %v", a, b, meet, c)
				}
			}
		}
	}
}

func TestStampJoinIsTheLeastUpperBound(t *testing.T) {
	all := append(allStamps(), farStamps()...)
	for _, a := range all {
		for _, b := range all {
			join := impl.StampJoin(a, b)
			if !impl.StampLeq(a, join) || !impl.StampLeq(b, join) {
				t.Fatalf("StampJoin(%v, %v) = %v is no upper bound", a, b, join)
			}
			for _, c := range all {
				if impl.StampLeq(a, c) && impl.StampLeq(b, c) && !impl.StampLeq(join, c) {
					t.Fatalf("StampJoin(%v, %v) = %v is not below the upper bound %v", a, b, join, c)
				}
			}
		}
	}
}

func TestNextTurn(t *testing.T) {
	cases := []struct {
		s, want impl.Stamp
		ok      bool
	}{
		{impl.Stamp{}, impl.Stamp{Turn: 1}, true},
		{impl.Stamp{Epoch: 1, Turn: 2}, impl.Stamp{Epoch: 1, Turn: 3}, true},
		{impl.Stamp{Epoch: 3, Turn: 5}, impl.Stamp{Epoch: 3, Turn: 6}, true},
		{impl.Stamp{Epoch: 0, Turn: 6}, impl.Stamp{Epoch: 0, Turn: 6}, false},
		{impl.Stamp{Epoch: 3, Turn: 6}, impl.Stamp{Epoch: 3, Turn: 6}, false},
		{impl.Stamp{Epoch: 2, Turn: 7}, impl.Stamp{Epoch: 2, Turn: 7}, false},
		{impl.Stamp{Epoch: 2, Turn: -1}, impl.Stamp{Epoch: 2, Turn: -1}, false},
		{impl.Stamp{Epoch: 4, Turn: 2}, impl.Stamp{Epoch: 4, Turn: 2}, false},
		{impl.Stamp{Epoch: -1, Turn: 2}, impl.Stamp{Epoch: -1, Turn: 2}, false},
		{impl.Stamp{Epoch: 4, Turn: 6}, impl.Stamp{Epoch: 4, Turn: 6}, false},
		{impl.Stamp{Epoch: 0, Turn: math.MaxInt}, impl.Stamp{Epoch: 0, Turn: math.MaxInt}, false},
		{impl.Stamp{Epoch: 0, Turn: math.MinInt}, impl.Stamp{Epoch: 0, Turn: math.MinInt}, false},
	}
	for _, c := range cases {
		if got, ok := impl.NextTurn(c.s); got != c.want || ok != c.ok {
			t.Errorf("NextTurn(%v) = %v, %v, want %v, %v", c.s, got, ok, c.want, c.ok)
		}
	}
}

func TestTurnsEndAtTheLimit(t *testing.T) {
	for epoch := range impl.MaxEpoch + 1 {
		s := impl.Stamp{Epoch: epoch}
		steps := 0
		for next, ok := impl.NextTurn(s); ok && steps < 100; next, ok = impl.NextTurn(s) {
			if !impl.StampOk(next) || next == s || !impl.StampLeq(s, next) {
				t.Fatalf("NextTurn(%v) = %v", s, next)
			}
			s = next
			steps++
		}
		if steps != impl.MaxTurn || s != (impl.Stamp{Epoch: epoch, Turn: impl.MaxTurn}) {
			t.Errorf("epoch %d: %d turns up to %v, want %d", epoch, steps, s, impl.MaxTurn)
		}
	}
}

func TestStampOrder(t *testing.T) {
	cases := []struct {
		a, b impl.Stamp
		want int
	}{
		{impl.Stamp{}, impl.Stamp{}, 0},
		{impl.Stamp{Epoch: 2, Turn: 3}, impl.Stamp{Epoch: 2, Turn: 3}, 0},
		{impl.Stamp{Epoch: -2, Turn: 9}, impl.Stamp{Epoch: -2, Turn: 9}, 0},
		{impl.Stamp{Epoch: 1, Turn: 2}, impl.Stamp{Epoch: 1, Turn: 5}, -1},
		{impl.Stamp{Epoch: 1, Turn: 2}, impl.Stamp{Epoch: 2, Turn: 1}, -1},
		{impl.Stamp{Epoch: 1, Turn: 2}, impl.Stamp{Epoch: 3, Turn: 2}, -1},
		{impl.Stamp{Epoch: 0, Turn: 6}, impl.Stamp{Epoch: 1, Turn: 0}, -1},
		{impl.Stamp{Epoch: -1, Turn: 9}, impl.Stamp{Epoch: 0, Turn: -9}, -1},
		{impl.Stamp{Epoch: 0, Turn: -1}, impl.Stamp{Epoch: 0, Turn: 0}, -1},
		{impl.Stamp{Epoch: math.MinInt, Turn: 0}, impl.Stamp{Epoch: math.MaxInt, Turn: 0}, -1},
		{impl.Stamp{Epoch: 0, Turn: math.MinInt}, impl.Stamp{Epoch: 0, Turn: math.MaxInt}, -1},
	}
	for _, c := range cases {
		if got := impl.StampOrder(c.a, c.b); got != c.want {
			t.Errorf("StampOrder(%v, %v) = %d, want %d", c.a, c.b, got, c.want)
		}
		if got := impl.StampOrder(c.b, c.a); got != -c.want {
			t.Errorf("StampOrder(%v, %v) = %d, want %d", c.b, c.a, got, -c.want)
		}
	}
}

// allStamps is written in ascending order, so the positions there tell what StampOrder must return.
func TestStampOrderIsTotal(t *testing.T) {
	all := allStamps()
	for i, a := range all {
		for j, b := range all {
			want := 0
			if i < j {
				want = -1
			} else if i > j {
				want = 1
			}
			got := impl.StampOrder(a, b)
			if got != want {
				t.Fatalf("StampOrder(%v, %v) = %d, want %d", a, b, got, want)
			}
			if impl.StampLeq(a, b) && got > 0 {
				t.Fatalf("StampOrder(%v, %v) = %d against the partial order", a, b, got)
			}
		}
	}
}

func TestStampText(t *testing.T) {
	cases := []struct {
		s    impl.Stamp
		want string
	}{
		{impl.Stamp{}, "0.0"},
		{impl.Stamp{Epoch: 2, Turn: 0}, "2.0"},
		{impl.Stamp{Epoch: 1, Turn: 2}, "1.2"},
		{impl.Stamp{Epoch: 3, Turn: 6}, "3.6"},
		{impl.Stamp{Epoch: 10, Turn: 205}, "10.205"},
		{impl.Stamp{Epoch: -1, Turn: 2}, "-1.2"},
		{impl.Stamp{Epoch: 1, Turn: -2}, "1.-2"},
		{impl.Stamp{Epoch: -10, Turn: -7}, "-10.-7"},
		{impl.Stamp{Epoch: math.MinInt, Turn: math.MaxInt}, "-9223372036854775808.9223372036854775807"},
	}
	for _, c := range cases {
		if got := impl.StampText(c.s); got != c.want {
			t.Errorf("StampText(%v) = %q, want %q", c.s, got, c.want)
		}
	}
}

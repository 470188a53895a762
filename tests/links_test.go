package tests

import (
	"math"
	"math/big"
	"slices"
	"testing"

	"loop.example/g00973/impl"
)

// numbered returns a valid record that differs from those of the 3999 numbers before and after it, in several fields.
func numbered(n int) impl.Record {
	return impl.Record{Op: n % 8, Stamp: impl.Stamp{Epoch: n % 4, Turn: n % 7}, Key: n % 100, Val: n / 4 % 1000}
}

// numberedFrom returns as many numbered records as asked for.
func numberedFrom(first int, count int) []impl.Record {
	var list []impl.Record
	for n := first; n < first+count; n++ {
		list = append(list, numbered(n))
	}
	return list
}

// equalLinks compares field by field, without SameLink.
func equalLinks(a impl.Link, b impl.Link) bool {
	if len(a.Queue) != len(b.Queue) {
		return false
	}
	for at, r := range a.Queue {
		if r != b.Queue[at] {
			return false
		}
	}
	fields := func(l impl.Link) [5]int { return [5]int{l.Cap, l.Credits, l.Back, l.Sent, l.Got} }
	return fields(a) == fields(b)
}

// plainLinkOk adds with numbers that do not wrap around.
func plainLinkOk(l impl.Link) bool {
	for _, r := range l.Queue {
		if r.Op < 0 || r.Op > 7 || !validStamp(r.Stamp) || r.Key < 0 || r.Key > 99 || r.Val < 0 || r.Val > 999 {
			return false
		}
	}
	sum := func(numbers ...int) *big.Int {
		total := new(big.Int)
		for _, n := range numbers {
			total.Add(total, big.NewInt(int64(n)))
		}
		return total
	}
	switch {
	case l.Cap < 1, l.Cap > 4, l.Credits < 0, l.Back < 0:
		return false
	case sum(l.Credits, l.Back, len(l.Queue)).Cmp(sum(l.Cap)) != 0:
		return false
	case l.Sent < 0, l.Sent > 1000000000, l.Got < 0:
		return false
	}
	return sum(l.Got, len(l.Queue)).Cmp(sum(l.Sent)) == 0
}

// validLinks returns links of every capacity, with every number of queued records and of credits on their way back, and with counters from one end of their range to the other.
func validLinks() []impl.Link {
	var links []impl.Link
	for capacity := 1; capacity <= 4; capacity++ {
		for queued := range capacity + 1 {
			for back := range capacity - queued + 1 {
				for _, got := range []int{0, 1, 2, 3, 4, 5, 6, 7, 500, 999999990, 999999999 - queued, 1000000000 - queued} {
					links = append(links, impl.Link{
						Cap: capacity, Queue: numberedFrom(got, queued), Credits: capacity - queued - back, Back: back, Sent: got + queued, Got: got,
					})
				}
			}
		}
	}
	return links
}

// wrongLinks returns links that are not valid. Where it is possible only one condition is broken, and there are credits, returning credits and queued records, so that every operation is refused for that reason alone.
func wrongLinks() map[string]impl.Link {
	one, two := numberedFrom(1, 1), numberedFrom(1, 2)
	most := math.MaxInt
	links := map[string]impl.Link{
		"the zero link":                           {},
		"capacity 0":                              {Cap: 0},
		"capacity 0 with a queue":                 {Cap: 0, Queue: one, Credits: 1, Back: 1, Sent: 1},
		"capacity 5":                              {Cap: 5, Queue: one, Credits: 2, Back: 2, Sent: 1},
		"capacity 5, empty":                       {Cap: 5, Credits: 5},
		"capacity 5, full":                        {Cap: 5, Queue: numberedFrom(1, 5), Sent: 5},
		"capacity 9, with a longer queue":         {Cap: 9, Queue: numberedFrom(1, 7), Credits: 1, Back: 1, Sent: 7},
		"capacity -1":                             {Cap: -1, Queue: one, Credits: 1, Back: 1, Sent: 1},
		"the least capacity":                      {Cap: math.MinInt, Queue: one, Credits: 1, Back: 1, Sent: 1},
		"the largest capacity":                    {Cap: most, Queue: one, Credits: most - 2, Back: 1, Sent: 1},
		"credits -1":                              {Cap: 2, Queue: two, Credits: -1, Back: 1, Sent: 2},
		"the least credits":                       {Cap: 3, Queue: one, Credits: math.MinInt, Back: 1, Sent: 1},
		"back -1":                                 {Cap: 2, Queue: two, Credits: 1, Back: -1, Sent: 2},
		"the least back":                          {Cap: 3, Queue: one, Credits: 1, Back: math.MinInt, Sent: 1},
		"credits and back negative, wrap around":  {Cap: 1, Queue: one, Credits: math.MinInt, Back: math.MinInt, Sent: 1},
		"a sum one too small":                     {Cap: 4, Queue: one, Credits: 1, Back: 1, Sent: 1},
		"a sum one too large":                     {Cap: 3, Queue: one, Credits: 2, Back: 1, Sent: 1},
		"a sum without the queue":                 {Cap: 2, Queue: one, Credits: 1, Back: 1, Sent: 1},
		"a sum without the credits":               {Cap: 3, Queue: two, Credits: 1, Back: 1, Sent: 2},
		"a sum without the returning credits":     {Cap: 3, Queue: one, Credits: 2, Back: 1, Sent: 1},
		"a sum too large by the queue alone":      {Cap: 4, Queue: numberedFrom(1, 5), Sent: 5},
		"a queue much longer than the capacity":   {Cap: 4, Queue: numberedFrom(1, 40), Credits: 2, Back: 1, Sent: 40},
		"a full queue and a returning credit":     {Cap: 2, Queue: two, Back: 1, Sent: 2},
		"a full queue and a credit":               {Cap: 2, Queue: two, Credits: 1, Sent: 2},
		"a sum that wraps around to 1":            {Cap: 1, Queue: numberedFrom(1, 3), Credits: most, Back: most, Sent: 3},
		"a sum that wraps around to 2":            {Cap: 2, Queue: numberedFrom(1, 4), Credits: most, Back: most, Sent: 4},
		"a sum that wraps around to 4":            {Cap: 4, Queue: numberedFrom(1, 6), Credits: most, Back: most, Sent: 6},
		"the largest credits":                     {Cap: 3, Queue: one, Credits: most, Back: 1, Sent: 1},
		"the largest back":                        {Cap: 3, Queue: one, Credits: 1, Back: most, Sent: 1},
		"credits too large by a negative back":    {Cap: 3, Queue: one, Credits: most, Back: 3 - most - 1, Sent: 1},
		"back too large by negative credits":      {Cap: 3, Queue: one, Credits: 3 - most - 1, Back: most, Sent: 1},
		"sent one beyond":                         {Cap: 3, Queue: one, Credits: 1, Back: 1, Sent: 1000000001, Got: 1000000000},
		"sent one beyond, empty":                  {Cap: 2, Credits: 1, Back: 1, Sent: 1000000001, Got: 1000000001},
		"sent largest":                            {Cap: 3, Queue: one, Credits: 1, Back: 1, Sent: most, Got: most - 1},
		"sent -1":                                 {Cap: 2, Credits: 1, Back: 1, Sent: -1, Got: -1},
		"sent -1 with a queue":                    {Cap: 3, Queue: one, Credits: 1, Back: 1, Sent: -1, Got: -2},
		"sent least":                              {Cap: 2, Credits: 1, Back: 1, Sent: math.MinInt, Got: math.MinInt},
		"got -1":                                  {Cap: 3, Queue: one, Credits: 1, Back: 1, Sent: 0, Got: -1},
		"got -1, sent 1":                          {Cap: 4, Queue: two, Credits: 1, Back: 1, Sent: 1, Got: -1},
		"got least":                               {Cap: 3, Queue: one, Credits: 1, Back: 1, Sent: 1, Got: math.MinInt},
		"a difference that wraps around":          {Cap: 3, Queue: one, Credits: 1, Back: 1, Sent: math.MinInt, Got: most},
		"sent minus got one too small":            {Cap: 3, Queue: one, Credits: 1, Back: 1, Sent: 5, Got: 5},
		"sent minus got one too large":            {Cap: 3, Queue: one, Credits: 1, Back: 1, Sent: 7, Got: 5},
		"sent minus got negative":                 {Cap: 3, Queue: one, Credits: 1, Back: 1, Sent: 5, Got: 6},
		"sent minus got 1, empty":                 {Cap: 2, Credits: 1, Back: 1, Sent: 1},
		"got ahead of sent, empty":                {Cap: 2, Credits: 1, Back: 1, Sent: 0, Got: 1},
		"got largest":                             {Cap: 3, Queue: one, Credits: 1, Back: 1, Sent: 1, Got: most},
		"sent minus got without the queue at all": {Cap: 4, Queue: two, Credits: 1, Back: 1, Sent: 9, Got: 0},
	}
	for name, r := range wrongRecords() {
		links["first record with "+name] = impl.Link{Cap: 4, Queue: []impl.Record{r, one[0]}, Credits: 1, Back: 1, Sent: 2}
		links["last record with "+name] = impl.Link{Cap: 4, Queue: []impl.Record{one[0], r}, Credits: 1, Back: 1, Sent: 2}
		links["only record with "+name] = impl.Link{Cap: 3, Queue: []impl.Record{r}, Credits: 1, Back: 1, Sent: 1}
		links["a full queue and "+name] = impl.Link{Cap: 4, Queue: append(numberedFrom(1, 3), r), Sent: 4}
	}
	return links
}

// wrongRecords returns records of which exactly one field is one beyond its range.
func wrongRecords() map[string]impl.Record {
	return map[string]impl.Record{
		"operator 8": recordOf([5]int{8, 1, 1, 1, 1}), "operator -1": recordOf([5]int{-1, 1, 1, 1, 1}),
		"epoch 4": recordOf([5]int{1, 4, 1, 1, 1}), "epoch -1": recordOf([5]int{1, -1, 1, 1, 1}),
		"turn 7": recordOf([5]int{1, 1, 7, 1, 1}), "turn -1": recordOf([5]int{1, 1, -1, 1, 1}),
		"key 100": recordOf([5]int{1, 1, 1, 100, 1}), "key -1": recordOf([5]int{1, 1, 1, -1, 1}),
		"value 1000": recordOf([5]int{1, 1, 1, 1, 1000}), "value -1": recordOf([5]int{1, 1, 1, 1, -1}),
	}
}

func TestLimitsOfLinks(t *testing.T) {
	if impl.MaxCap != 4 {
		t.Errorf("MaxCap is %d, want 4", impl.MaxCap)
	}
}

func TestLinkNew(t *testing.T) {
	cases := []struct{ limit, want int }{
		{1, 1}, {2, 2}, {3, 3}, {4, 4},
		{0, 1}, {-1, 1}, {-4, 1}, {math.MinInt + 1, 1}, {math.MinInt, 1},
		{5, 4}, {6, 4}, {1000000000, 4}, {1 << 32, 4}, {1<<32 + 2, 4}, {math.MaxInt - 1, 4}, {math.MaxInt, 4},
	}
	for _, c := range cases {
		got, want := impl.LinkNew(c.limit), impl.Link{Cap: c.want, Credits: c.want}
		if !equalLinks(got, want) {
			t.Errorf("LinkNew(%d) = %v, want %v", c.limit, got, want)
		}
		if !impl.LinkOk(got) {
			t.Errorf("LinkNew(%d) = %v, which is not valid", c.limit, got)
		}
	}
}

func TestLinkOk(t *testing.T) {
	right := []impl.Link{
		{Cap: 1, Credits: 1},
		{Cap: 1, Back: 1},
		{Cap: 1, Queue: []impl.Record{{}}, Sent: 1},
		{Cap: 4, Queue: []impl.Record{}, Credits: 4},
		{Cap: 4, Queue: recordsOf([5]int{}, [5]int{7, 3, 6, 99, 999}), Credits: 1, Back: 1, Sent: 2},
		{Cap: 4, Queue: numberedFrom(1, 4), Sent: 4},
		{Cap: 4, Back: 4, Sent: 4, Got: 4},
		// The same record twice.
		{Cap: 2, Queue: recordsOf([5]int{1, 1, 1, 1, 1}, [5]int{1, 1, 1, 1, 1}), Sent: 2},
		// Sent at both ends of its range.
		{Cap: 3, Credits: 2, Back: 1, Sent: 0, Got: 0},
		{Cap: 3, Credits: 2, Back: 1, Sent: 1000000000, Got: 1000000000},
		{Cap: 3, Queue: numberedFrom(1, 2), Back: 1, Sent: 1000000000, Got: 999999998},
		{Cap: 3, Queue: numberedFrom(1, 2), Back: 1, Sent: 2, Got: 0},
	}
	for _, l := range append(right, validLinks()...) {
		if !impl.LinkOk(l) {
			t.Errorf("LinkOk(%v) = false, want true", l)
		}
	}
	for name, l := range wrongLinks() {
		if impl.LinkOk(l) {
			t.Errorf("%s: LinkOk(%v) = true, want false", name, l)
		}
	}
}

func TestLinkOkOfManyLinks(t *testing.T) {
	numbers := []int{math.MinInt, math.MinInt + 1, math.MinInt + 2, -2, -1, 0, 1, 2, 3, 4, 5, 6, math.MaxInt - 2, math.MaxInt - 1, math.MaxInt}
	valid := 0
	for _, capacity := range numbers {
		for _, credits := range numbers {
			for _, back := range numbers {
				for queued := range 7 {
					l := impl.Link{Cap: capacity, Queue: numberedFrom(0, queued), Credits: credits, Back: back, Sent: queued}
					if plainLinkOk(l) {
						valid++
					}
					if got, want := impl.LinkOk(l), plainLinkOk(l); got != want {
						t.Fatalf("LinkOk(%v) = %v, want %v", l, got, want)
					}
				}
			}
		}
	}
	// Three parts add up to 1, 2, 3 and 4 in 3, 6, 10 and 15 ways.
	if valid != 3+6+10+15 {
		t.Errorf("%d of the links are valid, want 34", valid)
	}
}

func TestLinkOkOfManyCounters(t *testing.T) {
	numbers := []int{math.MinInt, math.MinInt + 1, math.MinInt + 2, -3, -2, -1, 0, 1, 2, 3, 4, 5, 999999997, 999999998, 999999999, 1000000000, 1000000001, 1000000002, math.MaxInt - 2, math.MaxInt - 1, math.MaxInt}
	for _, sent := range numbers {
		for _, got := range numbers {
			for queued := range 5 {
				l := impl.Link{Cap: 4, Queue: numberedFrom(0, queued), Credits: 4 - queued, Sent: sent, Got: got}
				if got, want := impl.LinkOk(l), plainLinkOk(l); got != want {
					t.Fatalf("LinkOk(%v) = %v, want %v", l, got, want)
				}
			}
		}
	}
}

func TestSendOn(t *testing.T) {
	r := recordOf([5]int{7, 3, 6, 99, 999})
	cases := []struct{ before, after impl.Link }{
		{impl.Link{Cap: 1, Credits: 1}, impl.Link{Cap: 1, Queue: []impl.Record{r}, Sent: 1}},
		{impl.Link{Cap: 4, Queue: []impl.Record{}, Credits: 4}, impl.Link{Cap: 4, Queue: []impl.Record{r}, Credits: 3, Sent: 1}},
		{
			impl.Link{Cap: 4, Queue: numberedFrom(5, 2), Credits: 1, Back: 1, Sent: 7, Got: 5},
			impl.Link{Cap: 4, Queue: append(numberedFrom(5, 2), r), Credits: 0, Back: 1, Sent: 8, Got: 5},
		},
		// The same record once more.
		{
			impl.Link{Cap: 3, Queue: []impl.Record{r, r}, Credits: 1, Sent: 2},
			impl.Link{Cap: 3, Queue: []impl.Record{r, r, r}, Sent: 3},
		},
		// The last record that can be sent at all.
		{
			impl.Link{Cap: 2, Credits: 2, Sent: 999999999, Got: 999999999},
			impl.Link{Cap: 2, Queue: []impl.Record{r}, Credits: 1, Sent: 1000000000, Got: 999999999},
		},
		{
			impl.Link{Cap: 4, Queue: numberedFrom(5, 3), Credits: 1, Sent: 999999999, Got: 999999996},
			impl.Link{Cap: 4, Queue: append(numberedFrom(5, 3), r), Sent: 1000000000, Got: 999999996},
		},
	}
	for _, c := range cases {
		got, ok := impl.SendOn(c.before, r)
		if !ok || !equalLinks(got, c.after) {
			t.Errorf("SendOn(%v, %v) = %v, %v, want %v, true", c.before, r, got, ok, c.after)
		}
	}
}

func checkSendRefused(t *testing.T, name string, l impl.Link, r impl.Record) {
	t.Helper()
	if got, ok := impl.SendOn(l, r); ok || !equalLinks(got, l) {
		t.Errorf("%s: SendOn(%v, %v) = %v, %v, want the link unchanged and false", name, l, r, got, ok)
	}
}

func checkTakeRefused(t *testing.T, name string, l impl.Link) {
	t.Helper()
	if got, r, ok := impl.TakeFrom(l); ok || r != (impl.Record{}) || !equalLinks(got, l) {
		t.Errorf("%s: TakeFrom(%v) = %v, %v, %v, want the link unchanged, the zero record and false", name, l, got, r, ok)
	}
}

func checkCreditRefused(t *testing.T, name string, l impl.Link) {
	t.Helper()
	if got, ok := impl.CreditBack(l); ok || !equalLinks(got, l) {
		t.Errorf("%s: CreditBack(%v) = %v, %v, want the link unchanged and false", name, l, got, ok)
	}
}

func TestSendOnRefuses(t *testing.T) {
	r := recordOf([5]int{1, 2, 3, 4, 5})
	checkSendRefused(t, "full", impl.Link{Cap: 1, Queue: numberedFrom(1, 1), Sent: 1}, r)
	checkSendRefused(t, "full", impl.Link{Cap: 4, Queue: numberedFrom(1, 4), Sent: 4}, r)
	checkSendRefused(t, "the credit is on its way back", impl.Link{Cap: 1, Back: 1, Sent: 1, Got: 1}, r)
	checkSendRefused(t, "all credits are on their way back", impl.Link{Cap: 4, Back: 4, Sent: 4, Got: 4}, r)
	checkSendRefused(t, "some credits are on their way back", impl.Link{Cap: 4, Queue: numberedFrom(1, 2), Back: 2, Sent: 5, Got: 3}, r)
	checkSendRefused(t, "sent is at its end", impl.Link{Cap: 2, Credits: 2, Sent: 1000000000, Got: 1000000000}, r)
	checkSendRefused(t, "sent is at its end", impl.Link{Cap: 4, Queue: numberedFrom(1, 2), Credits: 1, Back: 1, Sent: 1000000000, Got: 999999998}, r)
	for name, wrong := range wrongRecords() {
		for _, l := range validLinks() {
			checkSendRefused(t, "record with "+name, l, wrong)
		}
	}
	for name, l := range wrongLinks() {
		checkSendRefused(t, name, l, r)
		checkSendRefused(t, name, l, recordOf([5]int{8, 4, 7, 100, 1000}))
	}
}

func TestTakeFrom(t *testing.T) {
	cases := []struct {
		before, after impl.Link
		want          impl.Record
	}{
		// A queue with one record.
		{
			impl.Link{Cap: 1, Queue: numberedFrom(9, 1), Sent: 1},
			impl.Link{Cap: 1, Back: 1, Sent: 1, Got: 1}, numbered(9),
		},
		{
			impl.Link{Cap: 4, Queue: numberedFrom(9, 1), Credits: 1, Back: 2, Sent: 8, Got: 7},
			impl.Link{Cap: 4, Credits: 1, Back: 3, Sent: 8, Got: 8}, numbered(9),
		},
		// The zero record is a record as well.
		{
			impl.Link{Cap: 1, Queue: []impl.Record{{}}, Sent: 1},
			impl.Link{Cap: 1, Back: 1, Sent: 1, Got: 1}, impl.Record{},
		},
		// The first of several.
		{
			impl.Link{Cap: 2, Queue: numberedFrom(9, 2), Sent: 2},
			impl.Link{Cap: 2, Queue: numberedFrom(10, 1), Back: 1, Sent: 2, Got: 1}, numbered(9),
		},
		{
			impl.Link{Cap: 4, Queue: numberedFrom(9, 4), Sent: 7, Got: 3},
			impl.Link{Cap: 4, Queue: numberedFrom(10, 3), Back: 1, Sent: 7, Got: 4}, numbered(9),
		},
		// The first one, though the second one is the smaller one.
		{
			impl.Link{Cap: 3, Queue: recordsOf([5]int{2, 2, 2, 2, 2}, [5]int{1, 1, 1, 1, 1}), Credits: 1, Sent: 2},
			impl.Link{Cap: 3, Queue: recordsOf([5]int{1, 1, 1, 1, 1}), Credits: 1, Back: 1, Sent: 2, Got: 1}, recordOf([5]int{2, 2, 2, 2, 2}),
		},
		// The last record that can be sent at all.
		{
			impl.Link{Cap: 2, Queue: numberedFrom(9, 1), Credits: 1, Sent: 1000000000, Got: 999999999},
			impl.Link{Cap: 2, Credits: 1, Back: 1, Sent: 1000000000, Got: 1000000000}, numbered(9),
		},
	}
	for _, c := range cases {
		got, r, ok := impl.TakeFrom(c.before)
		if !ok || r != c.want || !equalLinks(got, c.after) {
			t.Errorf("TakeFrom(%v) = %v, %v, %v, want %v, %v, true", c.before, got, r, ok, c.after, c.want)
		}
	}
}

func TestTakeFromRefuses(t *testing.T) {
	checkTakeRefused(t, "new", impl.LinkNew(3))
	checkTakeRefused(t, "an empty queue", impl.Link{Cap: 1, Credits: 1, Queue: []impl.Record{}})
	checkTakeRefused(t, "a credit is on its way back", impl.Link{Cap: 3, Credits: 2, Back: 1, Sent: 1, Got: 1})
	checkTakeRefused(t, "all credits are on their way back", impl.Link{Cap: 3, Back: 3, Sent: 6, Got: 6})
	checkTakeRefused(t, "sent is at its end", impl.Link{Cap: 3, Credits: 3, Sent: 1000000000, Got: 1000000000})
	for name, l := range wrongLinks() {
		checkTakeRefused(t, name, l)
	}
}

func TestCreditBack(t *testing.T) {
	cases := []struct{ before, after impl.Link }{
		// While the queue is empty.
		{impl.Link{Cap: 1, Back: 1, Sent: 1, Got: 1}, impl.Link{Cap: 1, Credits: 1, Sent: 1, Got: 1}},
		{impl.Link{Cap: 4, Back: 4, Sent: 9, Got: 9}, impl.Link{Cap: 4, Credits: 1, Back: 3, Sent: 9, Got: 9}},
		{impl.Link{Cap: 4, Credits: 3, Back: 1, Sent: 9, Got: 9}, impl.Link{Cap: 4, Credits: 4, Sent: 9, Got: 9}},
		// While the queue is as full as it can be with a credit on its way back.
		{
			impl.Link{Cap: 2, Queue: numberedFrom(9, 1), Back: 1, Sent: 2, Got: 1},
			impl.Link{Cap: 2, Queue: numberedFrom(9, 1), Credits: 1, Sent: 2, Got: 1},
		},
		{
			impl.Link{Cap: 4, Queue: numberedFrom(9, 3), Back: 1, Sent: 6, Got: 3},
			impl.Link{Cap: 4, Queue: numberedFrom(9, 3), Credits: 1, Sent: 6, Got: 3},
		},
		{
			impl.Link{Cap: 4, Queue: numberedFrom(9, 2), Credits: 1, Back: 1, Sent: 6, Got: 4},
			impl.Link{Cap: 4, Queue: numberedFrom(9, 2), Credits: 2, Sent: 6, Got: 4},
		},
		// Also when nothing can be sent any more.
		{
			impl.Link{Cap: 3, Queue: numberedFrom(9, 1), Back: 2, Sent: 1000000000, Got: 999999999},
			impl.Link{Cap: 3, Queue: numberedFrom(9, 1), Credits: 1, Back: 1, Sent: 1000000000, Got: 999999999},
		},
	}
	for _, c := range cases {
		if got, ok := impl.CreditBack(c.before); !ok || !equalLinks(got, c.after) {
			t.Errorf("CreditBack(%v) = %v, %v, want %v, true", c.before, got, ok, c.after)
		}
	}
}

func TestCreditBackRefuses(t *testing.T) {
	for _, limit := range []int{1, 2, 3, 4} {
		checkCreditRefused(t, "new", impl.LinkNew(limit))
		checkCreditRefused(t, "full", impl.Link{Cap: limit, Queue: numberedFrom(9, limit), Sent: limit})
	}
	checkCreditRefused(t, "half full", impl.Link{Cap: 4, Queue: numberedFrom(9, 2), Credits: 2, Sent: 7, Got: 5})
	for name, l := range wrongLinks() {
		checkCreditRefused(t, name, l)
	}
}

// A credit is no credit before it is back, whatever the queue holds.
func TestCreditOnItsWayBack(t *testing.T) {
	for limit := 1; limit <= 4; limit++ {
		l := impl.LinkNew(limit)
		for n := range limit {
			l, _ = impl.SendOn(l, numbered(n))
		}
		checkCreditRefused(t, "a full queue has no credit on its way back", l)
		for n := range limit {
			l, _, _ = impl.TakeFrom(l)
			if l.Back != n+1 || l.Credits != 0 {
				t.Errorf("after %d records were taken, the link is %v", n+1, l)
			}
			checkSendRefused(t, "a credit is on its way back", l, numbered(9))
		}
		for n := range limit {
			l, _ = impl.CreditBack(l)
			if l.Back != limit-n-1 || l.Credits != n+1 {
				t.Errorf("after %d credits are back, the link is %v", n+1, l)
			}
		}
		checkCreditRefused(t, "all credits are back", l)
		if want := (impl.Link{Cap: limit, Credits: limit, Sent: limit, Got: limit}); !equalLinks(l, want) {
			t.Errorf("the link is %v in the end, want %v", l, want)
		}
	}
}

// A journey is a link and what the two workers at its ends know of it.
type journey struct {
	link impl.Link
	sent []impl.Record
	got  []impl.Record
	back int
}

// step sends, takes or gives a credit back, and reports what is wrong with the result. The first record that is sent has the number given.
func (j journey) step(kind int, first int) (journey, string) {
	free := j.link.Cap - (len(j.sent) - len(j.got)) - j.back
	before, ok, want := j.link, false, false
	switch kind {
	case 0:
		r := numbered(first + len(j.sent))
		j.link, ok = impl.SendOn(j.link, r)
		if want = free > 0; want {
			j.sent = append(slices.Clone(j.sent), r)
		}
	case 1:
		var r impl.Record
		j.link, r, ok = impl.TakeFrom(j.link)
		if want = len(j.got) < len(j.sent); want {
			j.got, j.back = append(slices.Clone(j.got), r), j.back+1
		} else if r != (impl.Record{}) {
			return j, "a record came out of an empty queue"
		}
	case 2:
		j.link, ok = impl.CreditBack(j.link)
		if want = j.back > 0; want {
			j.back--
		}
	}
	if ok != want {
		return j, "the operation was refused or accepted wrongly"
	}
	if !ok && !equalLinks(before, j.link) {
		return j, "a refused operation changed the link"
	}
	return j, j.fault()
}

func (j journey) fault() string {
	l := j.link
	queue := j.sent[len(j.got):]
	switch {
	case !slices.Equal(j.got, j.sent[:len(j.got)]):
		return "the records came out in another order"
	case !slices.Equal(l.Queue, queue):
		return "the queue is another one"
	case l.Credits+l.Back+len(l.Queue) != l.Cap:
		return "credits, returning credits and queue do not add up"
	case l.Back != j.back || l.Credits != l.Cap-j.back-len(queue):
		return "the credits are wrong"
	case l.Sent-l.Got != len(queue) || !impl.LinkOk(l):
		return "the link is not valid"
	}
	return ""
}

// goOn takes every step from here, and every step after that.
func (j journey) goOn(t *testing.T, taken []int, steps int, first int) {
	if steps == 0 {
		return
	}
	for kind := range 3 {
		next, fault := j.step(kind, first)
		path := append(slices.Clone(taken), kind)
		if next.link.Cap != j.link.Cap || next.link.Sent != first+len(next.sent) || next.link.Got != first+len(next.got) {
			fault = "a counter is wrong"
		}
		if fault != "" {
			t.Fatalf("after the steps %v (send, take, credit back), the link is %v: %s", path, next.link, fault)
		}
		next.goOn(t, path, steps-1, first)
	}
}

func TestEveryInterleaving(t *testing.T) {
	for limit := 1; limit <= 4; limit++ {
		journey{link: impl.LinkNew(limit)}.goOn(t, nil, 9, 0)
	}
	// From counters that are not 0, so that the queue begins elsewhere.
	for _, first := range []int{1, 2, 3, 999999990} {
		for limit := 1; limit <= 4; limit++ {
			l := impl.LinkNew(limit)
			l.Sent, l.Got = first, first
			journey{link: l}.goOn(t, nil, 7, first)
		}
	}
}

func TestLongRuns(t *testing.T) {
	// Each list of steps is repeated; some steps are refused.
	for _, round := range [][]int{
		{0, 1, 2}, {0, 0, 1, 1, 2, 2}, {0, 0, 0, 1, 2}, {0, 0, 0, 0, 1, 1, 1, 1, 2, 2, 2, 2}, {0, 0, 1, 0, 2, 1, 1, 2},
		{2, 1, 0, 0}, {0, 1, 1, 0, 0, 2, 0, 2}, {0, 0, 0, 0, 0, 1, 2, 1, 2, 1}, {1, 0, 2, 0, 0, 1, 0, 2, 2, 1, 0},
	} {
		for limit := 1; limit <= 4; limit++ {
			j, fault := journey{link: impl.LinkNew(limit)}, ""
			for at := range 300 {
				j, fault = j.step(round[at%len(round)], 0)
				if fault != "" {
					t.Fatalf("after %d steps of %v, the link of capacity %d is %v: %s", at+1, round, limit, j.link, fault)
				}
			}
			if j.link.Sent != len(j.sent) || j.link.Got != len(j.got) || len(j.got) < 20 {
				t.Errorf("after steps of %v, the link of capacity %d is %v", round, limit, j.link)
			}
		}
	}
}

func TestSendOnStopsAtMaxNumber(t *testing.T) {
	l := impl.LinkNew(4)
	l.Sent, l.Got = 999999998, 999999998
	for n := range 2 {
		var ok bool
		if l, ok = impl.SendOn(l, numbered(n)); !ok {
			t.Fatalf("SendOn refused although Sent was %d", l.Sent)
		}
	}
	checkSendRefused(t, "sent is at its end", l, numbered(2))
	for n := range 2 {
		var r impl.Record
		l, r, _ = impl.TakeFrom(l)
		l, _ = impl.CreditBack(l)
		if r != numbered(n) {
			t.Errorf("TakeFrom returned %v, want %v", r, numbered(n))
		}
		checkSendRefused(t, "sent is at its end", l, numbered(2))
	}
	if want := (impl.Link{Cap: 4, Credits: 4, Sent: 1000000000, Got: 1000000000}); !equalLinks(l, want) {
		t.Errorf("the link is %v in the end, want %v", l, want)
	}
}

func TestStepsOfEveryValidLink(t *testing.T) {
	r := recordOf([5]int{6, 2, 5, 77, 777})
	for _, l := range validLinks() {
		want, wantOk := l, l.Credits > 0 && l.Sent < 1000000000
		if wantOk {
			want.Queue, want.Credits, want.Sent = append(slices.Clone(l.Queue), r), l.Credits-1, l.Sent+1
		}
		if got, ok := impl.SendOn(l, r); ok != wantOk || !equalLinks(got, want) {
			t.Errorf("SendOn(%v, %v) = %v, %v, want %v, %v", l, r, got, ok, want, wantOk)
		}
		want, wantOk = l, len(l.Queue) > 0
		wantRecord := impl.Record{}
		if wantOk {
			wantRecord = l.Queue[0]
			want.Queue, want.Back, want.Got = l.Queue[1:], l.Back+1, l.Got+1
		}
		if got, taken, ok := impl.TakeFrom(l); ok != wantOk || taken != wantRecord || !equalLinks(got, want) {
			t.Errorf("TakeFrom(%v) = %v, %v, %v, want %v, %v, %v", l, got, taken, ok, want, wantRecord, wantOk)
		}
		want, wantOk = l, l.Back > 0
		if wantOk {
			want.Back, want.Credits = l.Back-1, l.Credits+1
		}
		if got, ok := impl.CreditBack(l); ok != wantOk || !equalLinks(got, want) {
			t.Errorf("CreditBack(%v) = %v, %v, want %v, %v", l, got, ok, want, wantOk)
		}
	}
}

func TestInFlight(t *testing.T) {
	queue := recordsOf([5]int{0, 2, 0, 0, 0}, [5]int{3, 1, 3, 3, 3}, [5]int{0, 2, 6, 5, 9}, [5]int{0, 2, 0, 0, 0})
	far := recordsOf([5]int{0, -1, 0, 0, 0}, [5]int{0, math.MaxInt, 0, 0, 0}, [5]int{-8, 2, 99, -1, 1000}, [5]int{0, math.MinInt, 0, 0, 0}, [5]int{0, 4, 0, 0, 0}, [5]int{0, -1, 0, 0, 0})
	link := func(queue []impl.Record) impl.Link {
		return impl.Link{Cap: 4, Queue: queue, Credits: 4 - len(queue), Sent: 9 + len(queue), Got: 9}
	}
	cases := []struct {
		l     impl.Link
		epoch int
		want  int
	}{
		{link(queue), 2, 3}, {link(queue), 1, 1}, {link(queue[:2]), 2, 1}, {link(queue[1:]), 2, 2},
		// An epoch that no record has, though an operator, a turn, a key, a value, a counter or the length of the queue is that number.
		{link(queue), 0, 0}, {link(queue), 3, 0}, {link(queue), 4, 0}, {link(queue), 5, 0}, {link(queue), 6, 0}, {link(queue), 9, 0},
		{link(queue), -1, 0}, {link(queue), math.MinInt, 0}, {link(queue), math.MaxInt, 0},
		{impl.LinkNew(4), 0, 0}, {impl.Link{Queue: []impl.Record{}}, 0, 0},
		// A link that is not valid.
		{impl.Link{}, 0, 0}, {impl.Link{Queue: queue}, 2, 3}, {impl.Link{Cap: -1, Queue: queue, Credits: -9, Back: -9, Sent: -9, Got: -9}, 1, 1},
		{link(far), -1, 2}, {link(far), 2, 1}, {link(far), 4, 1}, {link(far), math.MaxInt, 1}, {link(far), math.MinInt, 1}, {link(far), 0, 0},
		{impl.Link{Queue: numberedFrom(0, 4000)}, 3, 1000}, {impl.Link{Queue: numberedFrom(0, 4000)}, 4, 0},
	}
	for _, c := range cases {
		if got := impl.InFlight(c.l, c.epoch); got != c.want {
			t.Errorf("InFlight(%v, %d) = %d, want %d", c.l, c.epoch, got, c.want)
		}
	}
}

func TestInFlightOfAllEpochsIsTheQueue(t *testing.T) {
	for _, l := range validLinks() {
		total := 0
		for epoch := range 4 {
			total += impl.InFlight(l, epoch)
		}
		if total != len(l.Queue) {
			t.Errorf("the epochs of %v have %d records", l, total)
		}
	}
}

func TestSameLink(t *testing.T) {
	a, b, c := numbered(1), numbered(2), numbered(3)
	base := impl.Link{Cap: 4, Queue: []impl.Record{a, b}, Credits: 1, Back: 1, Sent: 5, Got: 3}
	changed := func(change func(l *impl.Link)) impl.Link {
		l := base
		l.Queue = slices.Clone(base.Queue)
		change(&l)
		return l
	}
	others := map[string]impl.Link{
		"Cap":              changed(func(l *impl.Link) { l.Cap = 3 }),
		"Credits":          changed(func(l *impl.Link) { l.Credits = 2 }),
		"Back":             changed(func(l *impl.Link) { l.Back = 2 }),
		"Sent":             changed(func(l *impl.Link) { l.Sent = 6 }),
		"Got":              changed(func(l *impl.Link) { l.Got = 2 }),
		"Credits and Back": changed(func(l *impl.Link) { l.Credits, l.Back = 0, 2 }),
		"Back and Credits": changed(func(l *impl.Link) { l.Credits, l.Back = 2, 0 }),
		"Sent and Got":     changed(func(l *impl.Link) { l.Sent, l.Got = 6, 4 }),
		"a far Cap":        changed(func(l *impl.Link) { l.Cap += 1 << 32 }),
		"a far Credits":    changed(func(l *impl.Link) { l.Credits += 1 << 32 }),
		"a far Back":       changed(func(l *impl.Link) { l.Back += 1 << 32 }),
		"a far Sent":       changed(func(l *impl.Link) { l.Sent += 1 << 32 }),
		"a far Got":        changed(func(l *impl.Link) { l.Got = math.MinInt }),
		"a first record":   changed(func(l *impl.Link) { l.Queue[0] = c }),
		"a last record":    changed(func(l *impl.Link) { l.Queue[1] = c }),
		"an operator":      changed(func(l *impl.Link) { l.Queue[1].Op++ }),
		"an epoch":         changed(func(l *impl.Link) { l.Queue[1].Stamp.Epoch++ }),
		"a turn":           changed(func(l *impl.Link) { l.Queue[1].Stamp.Turn++ }),
		"a key":            changed(func(l *impl.Link) { l.Queue[1].Key++ }),
		"a value":          changed(func(l *impl.Link) { l.Queue[1].Val++ }),
		"the order":        changed(func(l *impl.Link) { l.Queue = []impl.Record{b, a} }),
		"one less":         changed(func(l *impl.Link) { l.Queue = []impl.Record{a} }),
		"one more":         changed(func(l *impl.Link) { l.Queue = []impl.Record{a, b, c} }),
		"one zero more":    changed(func(l *impl.Link) { l.Queue = []impl.Record{a, b, {}} }),
		"the first twice":  changed(func(l *impl.Link) { l.Queue = []impl.Record{a, a} }),
		"an empty queue":   changed(func(l *impl.Link) { l.Queue = []impl.Record{} }),
		"no queue":         changed(func(l *impl.Link) { l.Queue = nil }),
		"everything":       {},
	}
	for name, other := range others {
		if impl.SameLink(base, other) || impl.SameLink(other, base) {
			t.Errorf("%s: SameLink(%v, %v) = true", name, base, other)
		}
		if !impl.SameLink(other, changed(func(l *impl.Link) { *l = other })) {
			t.Errorf("%s: SameLink(%v, %v) = false", name, other, other)
		}
	}
	if !impl.SameLink(base, changed(func(l *impl.Link) {})) {
		t.Errorf("SameLink of %v and a copy = false", base)
	}
}

func TestSameLinkOfANilAndAnEmptyQueue(t *testing.T) {
	for limit := range 7 {
		// A capacity of 0, 5 or 6 is not valid, which makes no difference here.
		none, empty := impl.Link{Cap: limit, Credits: limit}, impl.Link{Cap: limit, Queue: []impl.Record{}, Credits: limit}
		roomy := impl.Link{Cap: limit, Queue: numberedFrom(1, 3)[:0], Credits: limit}
		for _, a := range []impl.Link{none, empty, roomy} {
			for _, b := range []impl.Link{none, empty, roomy} {
				if !impl.SameLink(a, b) {
					t.Errorf("SameLink(%v, %v) = false", a, b)
				}
			}
			if got, ok := impl.SendOn(a, numbered(1)); ok != (limit >= 1 && limit <= 4) || ok && (len(got.Queue) != 1 || got.Queue[0] != numbered(1)) {
				t.Errorf("SendOn(%v, %v) = %v, %v", a, numbered(1), got, ok)
			}
			checkTakeRefused(t, "an empty queue", a)
			checkCreditRefused(t, "no credit is on its way back", a)
		}
		if impl.LinkOk(none) != impl.LinkOk(empty) || impl.LinkOk(none) != impl.LinkOk(roomy) {
			t.Errorf("LinkOk tells a nil and an empty queue apart")
		}
	}
}

func TestSameLinkOfManyLinks(t *testing.T) {
	links := validLinks()
	for _, l := range wrongLinks() {
		links = append(links, l)
	}
	for _, a := range links {
		for _, b := range links {
			if got, want := impl.SameLink(a, b), equalLinks(a, b); got != want {
				t.Fatalf("SameLink(%v, %v) = %v, want %v", a, b, got, want)
			}
		}
	}
}

// linksForMemory returns links at which each operation is carried out, and links at which it is refused.
func linksForMemory() []impl.Link {
	links := append(validLinks(), impl.Link{Cap: 4, Queue: []impl.Record{}, Credits: 4})
	for _, l := range wrongLinks() {
		links = append(links, l)
	}
	return append(links, impl.Link{Cap: 4, Queue: longRecordLists()[0], Credits: 1, Back: 1, Sent: 300})
}

func TestLinksDoNotChangeTheirQueues(t *testing.T) {
	calls := []struct {
		name string
		call func(a impl.Link, b impl.Link)
	}{
		{"LinkOk", func(a impl.Link, b impl.Link) { impl.LinkOk(a) }},
		{"SendOn", func(a impl.Link, b impl.Link) { impl.SendOn(a, numbered(8)) }},
		{"SendOn of a record that is not valid", func(a impl.Link, b impl.Link) { impl.SendOn(a, impl.Record{Op: 8}) }},
		{"TakeFrom", func(a impl.Link, b impl.Link) { impl.TakeFrom(a) }},
		{"CreditBack", func(a impl.Link, b impl.Link) { impl.CreditBack(a) }},
		{"InFlight", func(a impl.Link, b impl.Link) { impl.InFlight(a, 1) }},
		{"SameLink", func(a impl.Link, b impl.Link) { impl.SameLink(a, b) }},
	}
	for _, l := range linksForMemory() {
		for _, c := range calls {
			checkUnchanged(t, c.name, l.Queue, l.Queue, spareRecord, func(a []impl.Record, b []impl.Record) {
				first, second := l, l
				first.Queue, second.Queue = a, b
				c.call(first, second)
			})
		}
	}
}

func TestLinksShareNoMemoryWithTheirQueues(t *testing.T) {
	mark := recordOf([5]int{77, 77, 77, 77, 77})
	results := []struct {
		name string
		of   func(l impl.Link) impl.Link
	}{
		{"SendOn", func(l impl.Link) impl.Link { l, _ = impl.SendOn(l, numbered(8)); return l }},
		{"SendOn of a record that is not valid", func(l impl.Link) impl.Link { l, _ = impl.SendOn(l, impl.Record{Op: 8}); return l }},
		{"TakeFrom", func(l impl.Link) impl.Link { l, _, _ = impl.TakeFrom(l); return l }},
		{"CreditBack", func(l impl.Link) impl.Link { l, _ = impl.CreditBack(l); return l }},
	}
	for _, l := range linksForMemory() {
		for _, r := range results {
			checkNewMemory(t, r.name, l.Queue, nil, spareRecord, mark, func(a []impl.Record, b []impl.Record) []impl.Record {
				roomy := l
				roomy.Queue = a
				return r.of(roomy).Queue
			})
		}
	}
}

func TestLinkNewReturnsNewMemory(t *testing.T) {
	first, second := impl.LinkNew(4), impl.LinkNew(4)
	a, b := append(first.Queue, numbered(1)), append(second.Queue, numbered(2))
	if a[0] != numbered(1) || b[0] != numbered(2) {
		t.Errorf("the queues of two new links share memory")
	}
}

// The spare capacity behind a queue is no part of the link, whether it holds valid records or not.
func TestLinksDoNotDependOnSpareCapacity(t *testing.T) {
	for _, l := range linksForMemory() {
		for _, spare := range []impl.Record{spareRecord, recordOf([5]int{8, 1, 7, 100, 1000})} {
			roomy := l
			roomy.Queue = roomyList(l.Queue, spare)
			if !impl.SameLink(l, roomy) || !impl.SameLink(roomy, l) || impl.LinkOk(l) != impl.LinkOk(roomy) || impl.InFlight(l, 1) != impl.InFlight(roomy, 1) {
				t.Errorf("the results at %v depend on what is behind its queue", l)
			}
			first, r, ok := impl.TakeFrom(l)
			second, q, also := impl.TakeFrom(roomy)
			if ok != also || r != q || !equalLinks(first, second) {
				t.Errorf("TakeFrom of %v depends on what is behind its queue", l)
			}
		}
	}
}

package tests

import (
	"math"
	"slices"
	"strings"
	"testing"

	"loop.example/g00973/impl"
)

func TestLimitsOfWords(t *testing.T) {
	got := []int{impl.MaxText, impl.MaxNumber, impl.MaxWords, impl.MaxParts}
	if want := []int{20000, 1000000000, 600, 12}; !slices.Equal(got, want) {
		t.Errorf("limits are %v, want %v", got, want)
	}
}

func allBytes() string {
	b := make([]byte, 256)
	for i := range b {
		b[i] = byte(i)
	}
	return string(b)
}

func TestHex(t *testing.T) {
	cases := []struct{ text, want string }{
		{"", ""},
		{"az", "617a"},
		{"\x00", "00"},
		{"\x0f\xf0", "0ff0"},
		{"\xff\xfe", "fffe"},
		{"é", "c3a9"},
		{"a b\n", "6120620a"},
	}
	for _, c := range cases {
		if got, ok := impl.Hex(c.text); got != c.want || !ok {
			t.Errorf("Hex(%q) = %q, %v, want %q, true", c.text, got, ok, c.want)
		}
		if got, ok := impl.Unhex(c.want); got != c.text || !ok {
			t.Errorf("Unhex(%q) = %q, %v, want %q, true", c.want, got, ok, c.text)
		}
	}
}

func TestHexAndUnhexAreInverse(t *testing.T) {
	texts := []string{"", allBytes(), strings.Repeat("\x9c", impl.MaxText)}
	for i := range 256 {
		texts = append(texts, string([]byte{byte(i)}), string([]byte{'x', byte(i), 0}))
	}
	for _, text := range texts {
		digits, ok := impl.Hex(text)
		if !ok || len(digits) != 2*len(text) {
			t.Fatalf("Hex of %d bytes: %d digits, %v", len(text), len(digits), ok)
		}
		if back, ok := impl.Unhex(digits); back != text || !ok {
			t.Fatalf("Unhex(Hex(%q)) = %q, %v", text, back, ok)
		}
	}
}

func TestHexAtItsLimit(t *testing.T) {
	most := strings.Repeat("k", impl.MaxText)
	if got, ok := impl.Hex(most); got != strings.Repeat("6b", impl.MaxText) || !ok {
		t.Errorf("Hex of MaxText bytes: %d digits, %v", len(got), ok)
	}
	if got, ok := impl.Hex(most + "k"); got != "" || ok {
		t.Errorf("Hex of MaxText+1 bytes: %d digits, %v", len(got), ok)
	}
}

func TestUnhexAtItsLimit(t *testing.T) {
	most := strings.Repeat("6b", impl.MaxText)
	if got, ok := impl.Unhex(most); got != strings.Repeat("k", impl.MaxText) || !ok {
		t.Errorf("Unhex of 2*MaxText digits: %d bytes, %v", len(got), ok)
	}
	for _, more := range []string{"6", "6b"} {
		if got, ok := impl.Unhex(most + more); got != "" || ok {
			t.Errorf("Unhex of 2*MaxText+%d digits: %d bytes, %v", len(more), len(got), ok)
		}
	}
}

func TestUnhexRejects(t *testing.T) {
	for _, text := range []string{"6", "617", "6A", "A6", "6G", "g6", "0x61", "61 7a", " 61", "61 ", "-1", "6é", "\x00\x00", "617a\n", "617a6"} {
		if got, ok := impl.Unhex(text); got != "" || ok {
			t.Errorf("Unhex(%q) = %q, %v, want \"\", false", text, got, ok)
		}
	}
}

func TestUnhexOfEveryPairOfBytes(t *testing.T) {
	isDigit := func(b int) bool { return b >= '0' && b <= '9' || b >= 'a' && b <= 'f' }
	for high := range 256 {
		for low := range 256 {
			text := string([]byte{byte(high), byte(low)})
			got, ok := impl.Unhex(text)
			if ok != (isDigit(high) && isDigit(low)) {
				t.Fatalf("Unhex(%q) = %q, %v", text, got, ok)
			}
			if !ok && got != "" {
				t.Fatalf("Unhex(%q) returns %q with false", text, got)
			}
			if again, right := impl.Hex(got); ok && (again != text || !right) {
				t.Fatalf("Hex(Unhex(%q)) = %q, %v", text, again, right)
			}
		}
	}
}

func TestDecimal(t *testing.T) {
	cases := []struct {
		n    int
		want string
	}{
		{0, "0"}, {7, "7"}, {10, "10"}, {100, "100"}, {907, "907"},
		{-1, "-1"}, {-5, "-5"}, {-10, "-10"}, {-999, "-999"},
		{impl.MaxNumber, "1000000000"}, {impl.MaxNumber + 1, "1000000001"},
		{math.MaxInt, "9223372036854775807"}, {math.MaxInt - 1, "9223372036854775806"},
		{math.MinInt, "-9223372036854775808"}, {math.MinInt + 1, "-9223372036854775807"},
	}
	for _, c := range cases {
		if got := impl.Decimal(c.n); got != c.want {
			t.Errorf("Decimal(%d) = %q, want %q", c.n, got, c.want)
		}
	}
}

func TestDecimalAndReadDecimalAreInverse(t *testing.T) {
	numbers := []int{impl.MaxNumber, impl.MaxNumber - 1, impl.MaxNumber / 2, 999999999, 123456789}
	for n := range 20000 {
		numbers = append(numbers, n)
	}
	for n := 1; n < impl.MaxNumber; n *= 10 {
		numbers = append(numbers, n-1, n, n+1, 5*n)
	}
	for _, n := range numbers {
		if got, ok := impl.ReadDecimal(impl.Decimal(n)); got != n || !ok {
			t.Fatalf("ReadDecimal(Decimal(%d)) = %d, %v", n, got, ok)
		}
	}
}

func TestReadDecimal(t *testing.T) {
	cases := []struct {
		text string
		want int
	}{
		{"0", 0}, {"1", 1}, {"9", 9}, {"10", 10}, {"600", 600}, {"999999999", 999999999}, {"1000000000", impl.MaxNumber},
	}
	for _, c := range cases {
		if got, ok := impl.ReadDecimal(c.text); got != c.want || !ok {
			t.Errorf("ReadDecimal(%q) = %d, %v, want %d, true", c.text, got, ok, c.want)
		}
	}
}

func TestReadDecimalRejects(t *testing.T) {
	texts := []string{
		"", " ", "-", "+",
		"01", "00", "000", "007", "0000000001", "01000000000",
		"+1", "+0", "-1", "-0", "-5", "--1",
		" 1", "1 ", "1 2", "\t1", "1\n",
		"1.0", "1e3", "0x10", "0b1", "1_000", "1,000", "a", "1a", "a1", "\x00", "1\x00", "٣", "é",
		"1000000001", "2000000000", "9999999999", "10000000000",
		"9223372036854775807", "9223372036854775808", "18446744073709551616", "18446744073709551617",
		"-9223372036854775808", strings.Repeat("0", 1000), "1" + strings.Repeat("0", 1000), strings.Repeat("9", 30000),
	}
	for _, text := range texts {
		if got, ok := impl.ReadDecimal(text); got != 0 || ok {
			t.Errorf("ReadDecimal(%.40q) = %d, %v, want 0, false", text, got, ok)
		}
	}
}

func TestPartsOf(t *testing.T) {
	long := strings.Repeat("w", impl.MaxWords)
	cases := []struct {
		line string
		want []string
	}{
		{"", nil},
		{" ", nil},
		{"     ", nil},
		{strings.Repeat(" ", impl.MaxWords), nil},
		{"a", []string{"a"}},
		{" a", []string{"a"}},
		{"a ", []string{"a"}},
		{" work  1 ", []string{"work", "1"}},
		{"take 0 1", []string{"take", "0", "1"}},
		{"same same", []string{"same", "same"}},
		{"!~ ~!", []string{"!~", "~!"}},
		{long, []string{long}},
		{long[:impl.MaxWords-2] + " z", []string{long[:impl.MaxWords-2], "z"}},
		{"a b c d e f g h i j k l", strings.Split("abcdefghijkl", "")},
		{"  a b c d e f g h i j k l  ", strings.Split("abcdefghijkl", "")},
	}
	for _, c := range cases {
		if got, ok := impl.PartsOf(c.line); !slices.Equal(got, c.want) || !ok {
			t.Errorf("PartsOf(%.40q) = %q, %v, want %q, true", c.line, got, ok, c.want)
		}
	}
}

func TestPartsOfRejects(t *testing.T) {
	lines := []string{
		strings.Repeat("w", impl.MaxWords+1),
		strings.Repeat(" ", impl.MaxWords+1),
		strings.Repeat(" ", impl.MaxWords) + "a",
		"a" + strings.Repeat(" ", impl.MaxWords),
		"a b c d e f g h i j k l m",
		strings.Repeat(" x", impl.MaxParts+1) + " ",
		strings.Repeat("x ", impl.MaxWords/2),
		"a\tb", "a\n", "\r", "a\vb", "a\fb", "caf\xc3\xa9", "a\u00a0b", "a\u2003b",
	}
	for _, line := range lines {
		if got, ok := impl.PartsOf(line); got != nil || ok {
			t.Errorf("PartsOf(%.40q) = %q, %v, want nil, false", line, got, ok)
		}
	}
}

func TestPartsOfWithEveryByte(t *testing.T) {
	for i := range 256 {
		b := string([]byte{byte(i)})
		for _, line := range []string{b, b + "ab", "a" + b + "b", "ab" + b, "ab " + b, strings.Repeat(" ", impl.MaxWords-1) + b} {
			got, ok := impl.PartsOf(line)
			if ok != (i >= 32 && i <= 126) {
				t.Fatalf("PartsOf(%q) = %q, %v", line, got, ok)
			}
			if !ok && got != nil {
				t.Fatalf("PartsOf(%q) returns %q with false", line, got)
			}
			if ok && strings.Join(got, "") != strings.ReplaceAll(line, " ", "") {
				t.Fatalf("PartsOf(%q) = %q: bytes are lost", line, got)
			}
		}
	}
}

func TestPartsOfReturnsNewMemory(t *testing.T) {
	first, _ := impl.PartsOf("a b")
	first[0] = "changed"
	if second, ok := impl.PartsOf("a b"); !slices.Equal(second, []string{"a", "b"}) || !ok {
		t.Errorf("a changed result shows in a later call: %q, %v", second, ok)
	}
}

func TestBrought(t *testing.T) {
	cases := []struct{ n, least, most, want int }{
		{9, 1, 5, 5}, {0, 1, 5, 1}, {3, 1, 5, 3}, {1, 1, 5, 1}, {5, 1, 5, 5}, {6, 1, 5, 5},
		{-9, -5, -1, -5}, {0, -5, -1, -1}, {7, 4, 4, 4}, {4, 4, 4, 4}, {-7, 4, 4, 4},
		{3, 5, 1, 5}, {0, 5, 1, 5}, {9, 5, 1, 5}, {5, 5, 4, 5}, {4, 5, 4, 5},
		{math.MinInt, 0, 3000, 0}, {math.MaxInt, 0, 3000, 3000},
		{0, math.MinInt, math.MaxInt, 0},
		{math.MinInt, math.MinInt, math.MaxInt, math.MinInt}, {math.MaxInt, math.MinInt, math.MaxInt, math.MaxInt},
		{0, math.MaxInt, math.MinInt, math.MaxInt},
	}
	for _, c := range cases {
		if got := impl.Brought(c.n, c.least, c.most); got != c.want {
			t.Errorf("Brought(%d, %d, %d) = %d, want %d", c.n, c.least, c.most, got, c.want)
		}
	}
}

func TestBroughtIsWithinTheRange(t *testing.T) {
	for least := -6; least <= 6; least++ {
		for most := least; most <= 6; most++ {
			for n := -9; n <= 9; n++ {
				got := impl.Brought(n, least, most)
				if got < least || got > most {
					t.Fatalf("Brought(%d, %d, %d) = %d is outside the range", n, least, most, got)
				}
				if n >= least && n <= most && got != n {
					t.Fatalf("Brought(%d, %d, %d) = %d changes a value in the range", n, least, most, got)
				}
			}
		}
	}
}

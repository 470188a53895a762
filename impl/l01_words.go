package impl

import (
	"strconv"
	"strings"
)

const (
	MaxText   = 20000
	MaxNumber = 1000000000
	MaxWords  = 600
	MaxParts  = 12
)

const hexDigits = "0123456789abcdef"

const (
	leastLineByte = 32
	mostLineByte  = 126
)

func Hex(text string) (string, bool) {
	if len(text) > MaxText {
		return "", false
	}
	digits := make([]byte, 0, 2*len(text))
	for at := range len(text) {
		b := text[at]
		digits = append(digits, hexDigits[b>>4], hexDigits[b&15])
	}
	return string(digits), true
}

func Unhex(text string) (string, bool) {
	// A longer text is the encoding of no string that Hex accepts.
	if len(text)%2 != 0 || len(text) > 2*MaxText {
		return "", false
	}
	decoded := make([]byte, 0, len(text)/2)
	for at := 0; at < len(text); at += 2 {
		high := strings.IndexByte(hexDigits, text[at])
		low := strings.IndexByte(hexDigits, text[at+1])
		if high < 0 || low < 0 {
			return "", false
		}
		decoded = append(decoded, byte(high<<4|low))
	}
	return string(decoded), true
}

func Decimal(n int) string {
	return strconv.Itoa(n)
}

func ReadDecimal(text string) (int, bool) {
	n, err := strconv.Atoi(text)
	// Atoi also accepts signs and leading zeros, which Decimal never writes.
	if err != nil || n < 0 || n > MaxNumber || Decimal(n) != text {
		return 0, false
	}
	return n, true
}

func PartsOf(line string) ([]string, bool) {
	if len(line) > MaxWords || validBytes(line) < len(line) {
		return nil, false
	}
	// Of the bytes allowed in a line, only the space is white space to Fields.
	parts := strings.Fields(line)
	if len(parts) > MaxParts {
		return nil, false
	}
	return parts, true
}

// validBytes returns the number of bytes before the first one that a line may
// not contain, so that the line is valid exactly if the number is its length.
func validBytes(line string) int {
	at := 0
scan:
	for at < len(line) {
		switch b := line[at]; {
		case b < leastLineByte, b > mostLineByte:
			break scan
		default:
			at++
		}
	}
	return at
}

func Brought(n int, least int, most int) int {
	// An empty range yields least whatever n is, so it is decided first.
	if most < least || n < least {
		return least
	}
	if n > most {
		return most
	}
	return n
}

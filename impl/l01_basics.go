package impl

import (
	"strconv"
	"strings"
)

// Codes. Functions return them as int64.
const (
	OK = iota
	ErrInvalid
	ErrRange
	ErrNotFound
	ErrExists
	ErrFull
	ErrState
	ErrSyntax
	ErrFormat
	ErrClash
	ErrUnsafe
)

// MaxName is the greatest number of bytes of a name.
const MaxName = 12

// codeNames has the names of the codes in the order of their values.
const codeNames = "ok invalid range not-found exists full state syntax format clash unsafe"

// maxDigits keeps every number that is read well inside of an int64.
const maxDigits = 18

// CodeName returns the name of a code.
func CodeName(code int64) string {
	names := strings.Fields(codeNames)
	if code < 0 || code >= int64(len(names)) {
		return ""
	}
	return names[code]
}

// IsName reports whether s is a name.
func IsName(s string) bool {
	if len(s) < 1 || len(s) > MaxName {
		return false
	}
	for i, r := range s {
		if !isLetter(r) && (i == 0 || !isDigit(r) && r != '-') {
			return false
		}
	}
	return true
}

func isLetter(r rune) bool { return r >= 'a' && r <= 'z' }

func isDigit(r rune) bool { return r >= '0' && r <= '9' }

// Decimal returns the decimal form of a number.
func Decimal(n int64) string { return strconv.FormatInt(n, 10) }

// ReadDecimal returns the number with a decimal form.
func ReadDecimal(s string) (int64, bool) {
	if len(strings.TrimPrefix(s, "-")) > maxDigits {
		return 0, false
	}
	n, err := strconv.ParseInt(s, 10, 64)
	// ParseInt also takes a plus sign, leading zeros and -0, which Decimal never writes.
	if err != nil || Decimal(n) != s {
		return 0, false
	}
	return n, true
}

// SplitWords returns the parts of a text without blanks.
func SplitWords(s string) []string {
	// strings.Fields would also split at tabs and newlines, which belong to words here.
	return strings.FieldsFunc(s, isBlank)
}

func isBlank(r rune) bool { return r == ' ' }

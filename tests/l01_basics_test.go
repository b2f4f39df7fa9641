package tests

import (
	"math"
	"slices"
	"strconv"
	"strings"
	"testing"

	"loop.example/g00932/impl"
)

func TestCodes(t *testing.T) {
	names := []string{"ok", "invalid", "range", "not-found", "exists", "full", "state", "syntax", "format", "clash", "unsafe"}
	codes := []int64{
		impl.OK, impl.ErrInvalid, impl.ErrRange, impl.ErrNotFound, impl.ErrExists, impl.ErrFull,
		impl.ErrState, impl.ErrSyntax, impl.ErrFormat, impl.ErrClash, impl.ErrUnsafe,
	}
	for i, code := range codes {
		same(t, "the number of "+names[i], code, int64(i))
		same(t, "the name of "+names[i], impl.CodeName(code), names[i])
	}
	for _, code := range edges {
		if !within(code, 0, 10) {
			same(t, "the name of "+impl.Decimal(code), impl.CodeName(code), "")
		}
	}
}

func TestNames(t *testing.T) {
	same(t, "MaxName", impl.MaxName, 12)
	good := []string{"a", "z", "crane-3", "a-", "a--", "a0", "z9", "abcdefghijkl", "a-0123456789"}
	for _, s := range good {
		same(t, "name "+strconv.Quote(s), impl.IsName(s), true)
	}
	bad := []string{
		"", "abcdefghijklm", "-", "-a", "0", "3-crane", "A", "aB", "a b", " a", "a ", "a_b", "a.b", "a\n", "a\x00",
		"é", "aé", "a\xff", "\xff", "ａ", "a٣", "abcdefghijké", "aaaaaaaaaaaaa", strings.Repeat("a", 1000),
	}
	for _, s := range bad {
		same(t, "name "+strconv.Quote(s), impl.IsName(s), false)
	}
}

func TestNamesByteByByte(t *testing.T) {
	const letters = "abcdefghijklmnopqrstuvwxyz"
	for b := range 256 {
		one := string([]byte{byte(b)})
		same(t, "name "+strconv.Quote(one), impl.IsName(one), strings.Contains(letters, one))
		same(t, "name "+strconv.Quote("x"+one), impl.IsName("x"+one), strings.Contains(letters+"0123456789-", one))
	}
}

func TestNamesLength(t *testing.T) {
	for n := range 40 {
		s := strings.Repeat("b", n)
		same(t, "name of the length "+strconv.Itoa(n), impl.IsName(s), n >= 1 && n <= 12)
	}
}

func TestDecimal(t *testing.T) {
	want := map[int64]string{
		0: "0", 1: "1", -1: "-1", 10: "10", -907: "-907", 1000000: "1000000",
		math.MaxInt64: "9223372036854775807", math.MinInt64: "-9223372036854775808",
	}
	for n, s := range want {
		same(t, "decimal", impl.Decimal(n), s)
	}
}

func TestReadDecimal(t *testing.T) {
	want := map[string]int64{
		"0": 0, "7": 7, "-7": -7, "-12": -12, "100": 100, "-100": -100,
		"999999999999999999": 999999999999999999, "-999999999999999999": -999999999999999999,
		"100000000000000000": 100000000000000000, "-100000000000000000": -100000000000000000,
	}
	for s, n := range want {
		got, ok := impl.ReadDecimal(s)
		same(t, "number "+s, got, n)
		same(t, "number "+s, ok, true)
	}
	bad := []string{
		"", "-", "+", "--1", "-0", "00", "01", "-01", "+1", "+0", " 1", "1 ", "1\n", "1_000", "1.0", "1e3", "0x1", "0b1", "a", "1a",
		"1000000000000000000", "-1000000000000000000", "9223372036854775807", "-9223372036854775808", "9223372036854775808",
		"000000000000000001", "0000000000000000001", "-000000000000000001", "٣", "１", "\xff", "1\x00", strings.Repeat("9", 1000), "-" + strings.Repeat("9", 18) + "0",
	}
	for _, s := range bad {
		got, ok := impl.ReadDecimal(s)
		same(t, "number "+strconv.Quote(s), got, int64(0))
		same(t, "number "+strconv.Quote(s), ok, false)
	}
}

func TestDecimalIsReadBack(t *testing.T) {
	for n := int64(1); n < 1000000000000000000; n = n*3 + 1 {
		for _, m := range []int64{n, -n} {
			got, ok := impl.ReadDecimal(impl.Decimal(m))
			same(t, "read back", got, m)
			same(t, "read back", ok, true)
		}
	}
}

func TestSplitWords(t *testing.T) {
	cases := []struct {
		text  string
		words []string
	}{
		{"", nil}, {" ", nil}, {"    ", nil},
		{"a", []string{"a"}}, {" a", []string{"a"}}, {"a ", []string{"a"}}, {"  a  ", []string{"a"}},
		{"a b", []string{"a", "b"}}, {"lift  beam   1500", []string{"lift", "beam", "1500"}},
		{"b a b", []string{"b", "a", "b"}},
		{"a\tb c\nd", []string{"a\tb", "c\nd"}}, {"\t \n \r \v \f", []string{"\t", "\n", "\r", "\v", "\f"}},
		{"a\u00a0b\u2003c", []string{"a\u00a0b\u2003c"}}, {"\x85 \xa0", []string{"\x85", "\xa0"}},
		{"\xff \xfe\x00", []string{"\xff", "\xfe\x00"}}, {"größe é", []string{"größe", "é"}},
	}
	for _, c := range cases {
		if got := impl.SplitWords(c.text); !slices.Equal(got, c.words) {
			t.Errorf("words of %q: got %q, want %q", c.text, got, c.words)
		}
	}
}

func TestSplitWordsByteByByte(t *testing.T) {
	for b := range 256 {
		text := string([]byte{'a', byte(b), 'c'})
		want := []string{text}
		if b == ' ' {
			want = []string{"a", "c"}
		}
		if got := impl.SplitWords(text); !slices.Equal(got, want) {
			t.Errorf("words of %q: got %q, want %q", text, got, want)
		}
	}
}

// Promise 1: equal results for equal arguments, and nothing shared between two calls.
func TestPromise1Basics(t *testing.T) {
	texts := []string{"", " ", "a", "a b  c", "-12", "crane-3", "\xff\xfe", "a\x00b", strings.Repeat("x ", 5000), strings.Repeat("1", 5000)}
	for _, s := range texts {
		same(t, "IsName twice", impl.IsName(s), impl.IsName(s))
		n, ok := impl.ReadDecimal(s)
		m, again := impl.ReadDecimal(s)
		same(t, "ReadDecimal twice", n, m)
		same(t, "ReadDecimal twice", ok, again)
		first := impl.SplitWords(s)
		kept := slices.Clone(first)
		for i := range first {
			first[i] = "changed"
		}
		_ = append(first, "more")
		if second := impl.SplitWords(s); !slices.Equal(second, kept) {
			t.Errorf("words of %q: first %q, then %q", s, kept, second)
		}
	}
	for _, n := range edges {
		same(t, "CodeName twice", impl.CodeName(n), impl.CodeName(n))
		same(t, "Decimal twice", impl.Decimal(n), impl.Decimal(n))
		same(t, "Decimal", impl.Decimal(n), strconv.FormatInt(n, 10))
	}
}

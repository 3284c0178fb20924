package tests

import (
	"slices"
	"strings"
	"testing"

	"loop.example/wayboard/impl"
)

// readsPath checks that a text is read if and only if it is the text of a path, and then as that one.
func readsPath(t *testing.T, known map[string][]int, text string) {
	t.Helper()
	want, wantOk := known[text]
	got, ok := impl.PathRead(text)
	if ok != wantOk || !slices.Equal(got, want) {
		t.Errorf("read %q: %v %v", text, got, ok)
	}
	if ok && (!impl.PathOk(got) || impl.PathText(got) != text) {
		t.Errorf("read %q, but it is written %q", text, impl.PathText(got))
	}
}

func TestP28ReadsNothingElse(t *testing.T) {
	known := pathTexts()
	texts := []string{
		"", "-", "--", "0", "6", "9", "10", "15", "12", "123", "12345", "0-1", "1-0", "1-6", "6-1", "1-2-3-4-5-6", "0-1-2-3-4-5",
		"-1", "1-", "-1-2", "1-2-", "1--2", "--1", "1---2", "1-2--3", "-1-", "- 1", "1 -2",
		"1 2", "1,2", "1/2", "1_2", "1+2", "1.2", "1:2", "1;2", "1\t2", "1\n2", "1\u20132", "1\u20142", "1\u22122", "1\u20102", "1\x002",
		"01", "001", "1-02", "01-2", "00", "-0", "0000000000000000000000001", "1-00000000000000000000000002",
		"+1", "1-+2", "+1-2", "1+-2", "-+1", "1--+2",
		" 1", "1 ", " 1-2", "1-2 ", "1- 2", "1 - 2", "\t1", "1\n", "1\r\n", "\n1", "1\x00", "\x001", "\u00a01", "\ufeff1",
		"x", "1x", "x1", "1-x", "x-1", "a-b", "1-2x", "1a-2", "(1-2)", "[1 2]", "\"1\"", "one",
		"..", " .", ". ", ".\n", "-.", ".-", ".-1", "1-.", "1.", ".1", "1-.-2", ". .", "\u3002", "\u2024", "nil", "[]",
		"1-1", "5-5", "1-2-1", "1-2-2", "1-2-3-4-5-1", "1-2-3-4-5-5", "1-01", "1-2-3-4-5-1-2-3-4-5",
		"256", "257", "65537", "4294967297", "1-4294967298", "9223372036854775807", "9223372036854775808", "18446744073709551617", "1-18446744073709551618", "-9223372036854775807", "-18446744073709551615",
		"0x1", "0b1", "0o1", "1_", "1e0", "1.0", "1-2.0", "0x1-0x2", "NaN", "Inf", "1-1e0",
		"\u0661", "\u0661-\u0662", "\uff11", "\uff11-\uff12", "1\uff0d2", "\u00b9", "\u2460", "\xff", "1-\xff", "1\xff", "\xb1",
		strings.Repeat("0", 5000) + "1", strings.Repeat("1", 5000), strings.Repeat("-", 5000), strings.Repeat(".", 5000), strings.Repeat(" ", 5000),
		strings.Repeat("1-", 5000), strings.Repeat("1-2-3-4-5-", 1000) + "1", "1" + strings.Repeat("-2", 5000), "1-2" + strings.Repeat(" ", 5000),
	}
	for _, text := range texts {
		if _, ok := known[text]; ok {
			t.Fatalf("%q is the text of a path", text)
		}
		readsPath(t, known, text)
	}
}

func TestP28ReadsEachShortText(t *testing.T) {
	known := pathTexts()
	last := []string{""}
	for range 6 {
		var next []string
		for _, text := range last {
			for _, letter := range "-.01256+ " {
				next = append(next, text+string(letter))
			}
		}
		for _, text := range next {
			readsPath(t, known, text)
		}
		last = next
	}
}

func TestP28ReadsNoTextWithAByteChanged(t *testing.T) {
	known := pathTexts()
	for text := range known {
		for i := 0; i <= len(text); i++ {
			for c := 0; c < 256; c++ {
				b := string([]byte{byte(c)})
				readsPath(t, known, text[:i]+b+text[i:])
				if i < len(text) {
					readsPath(t, known, text[:i]+b+text[i+1:])
				}
			}
			if i < len(text) {
				readsPath(t, known, text[:i]+text[i+1:])
			}
		}
	}
}

func TestP28ReadsListsThatArePathsOnly(t *testing.T) {
	known := pathTexts()
	for _, p := range lists() {
		var text strings.Builder
		for i, n := range p {
			if i > 0 {
				text.WriteByte('-')
			}
			text.WriteString([]string{"-1", "0", "1", "2", "3", "4", "5", "6"}[n+1])
		}
		readsPath(t, known, text.String())
	}
}

func FuzzP28Read(f *testing.F) {
	for _, text := range []string{"3-1-2", ".", "5", "1-2-3-4-5", "01", "+1", "1-1", "1-", ""} {
		f.Add(text)
	}
	known := pathTexts()
	f.Fuzz(func(t *testing.T, text string) {
		readsPath(t, known, text)
	})
}

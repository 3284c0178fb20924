package impl

import (
	"cmp"
	"iter"
	"strconv"
	"strings"
)

// AddrMax is the greatest address.
const AddrMax = 255

// BitMax is how many bits an address has.
const BitMax = 8

// Range is addresses that begin with the same bits: the first of them, and how many bits these are.
type Range struct {
	First int
	Bits  int
}

// RangeOk says whether a range is one.
func RangeOk(r Range) bool {
	return r.ok()
}

// RangeHas says whether an address is in a range.
func RangeHas(r Range, addr int) bool {
	return r.has(addr)
}

// RangeIn says whether all addresses of one range are in another one.
func RangeIn(a Range, b Range) bool {
	// Two ranges overlap only if one is in the other, so the first address and the length decide.
	return a.ok() && b.has(a.First) && a.Bits >= b.Bits
}

// RangeHalf is one half of a range.
func RangeHalf(r Range, upper bool) (Range, bool) {
	for isUpper, half := range r.halves() {
		if isUpper == upper {
			return half, true
		}
	}
	return Range{}, false
}

// RangeMany is how many addresses a range has.
func RangeMany(r Range) int {
	if !r.ok() {
		return 0
	}
	return r.size()
}

// RangeText is the text of a range.
func RangeText(r Range) string {
	if !r.ok() {
		return ""
	}
	return strconv.Itoa(r.First) + "/" + strconv.Itoa(r.Bits)
}

// RangeRead is the range of a text.
func RangeRead(text string) (Range, bool) {
	first, bits, found := strings.Cut(text, "/")
	if !found {
		return Range{}, false
	}
	firstNumber, firstErr := strconv.Atoi(first)
	bitsNumber, bitsErr := strconv.Atoi(bits)
	if firstErr != nil || bitsErr != nil {
		return Range{}, false
	}
	r := Range{First: firstNumber, Bits: bitsNumber}
	// Atoi also takes signs and leading zeros; only the text that is written back is the range's own.
	if RangeText(r) != text {
		return Range{}, false
	}
	return r, true
}

// RangeCmp tells which of two ranges stands ahead: -1, 0 if they are the same, 1.
func RangeCmp(a Range, b Range) int {
	if !a.ok() || !b.ok() {
		return 0
	}
	if a.First != b.First {
		return cmp.Compare(a.First, b.First)
	}
	return cmp.Compare(a.Bits, b.Bits)
}

// size needs Bits in range: a shift by a negative number would panic.
func (r Range) size() int {
	return 1 << (BitMax - r.Bits)
}

func (r Range) ok() bool {
	if r.Bits < 0 || r.Bits > BitMax {
		return false
	}
	return r.First >= 0 && r.First <= AddrMax && r.First%r.size() == 0
}

func (r Range) has(addr int) bool {
	// The difference cannot overflow, as both are at least 0 where it is taken.
	return r.ok() && addr >= r.First && addr-r.First < r.size()
}

// halves yields the lower half and then the upper one, each behind whether it is the upper one.
// There are none of an invalid range or of one address alone.
func (r Range) halves() iter.Seq2[bool, Range] {
	return func(yield func(bool, Range) bool) {
		if !r.ok() || r.Bits == BitMax {
			return
		}
		lower := Range{First: r.First, Bits: r.Bits + 1}
		upper := Range{First: r.First + lower.size(), Bits: r.Bits + 1}
		if yield(false, lower) {
			yield(true, upper)
		}
	}
}

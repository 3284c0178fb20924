package tests

import (
	"math"

	"loop.example/wayboard/impl"
)

// The expectations here follow the document's definition of a prefix bit by bit, so that they share no arithmetic with the program.

// extremes are numbers at which a careless sum, difference or shift wraps around.
var extremes = []int{
	math.MinInt, math.MinInt + 1, math.MinInt32, -1 << 16, -512, -256, -255, -64, -9, -8, -2, -1,
	256, 257, 263, 264, 320, 511, 512, 1 << 16, math.MaxInt32, 1 << 32, 1<<32 + 64, math.MaxInt - 255, math.MaxInt - 1, math.MaxInt,
}

func isAddress(n int) bool {
	return 0 <= n && n <= 255
}

// agrees reports whether two addresses have the same first bits, of 8.
func agrees(a, b, bits int) bool {
	for i := 0; i < bits; i++ {
		if a>>(7-i)&1 != b>>(7-i)&1 {
			return false
		}
	}
	return true
}

func isPrefix(r impl.Range) bool {
	if r.Bits < 0 || r.Bits > 8 || !isAddress(r.First) {
		return false
	}
	for i := r.Bits; i < 8; i++ {
		if r.First>>(7-i)&1 != 0 {
			return false
		}
	}
	return true
}

func covers(r impl.Range, addr int) bool {
	return isPrefix(r) && isAddress(addr) && agrees(r.First, addr, r.Bits)
}

// prefixes are all 511 valid prefixes, in the document's order.
func prefixes() []impl.Range {
	var all []impl.Range
	for first := 0; first <= 255; first++ {
		for bits := 0; bits <= 8; bits++ {
			if r := (impl.Range{First: first, Bits: bits}); isPrefix(r) {
				all = append(all, r)
			}
		}
	}
	return all
}

// notPrefixes are invalid prefixes of each kind: a length or a first address out of range, or a bit set behind the length.
func notPrefixes() []impl.Range {
	var all []impl.Range
	add := func(first, bits int) {
		if r := (impl.Range{First: first, Bits: bits}); !isPrefix(r) {
			all = append(all, r)
		}
	}
	for first := -9; first <= 265; first++ {
		for bits := -2; bits <= 10; bits++ {
			add(first, bits)
		}
	}
	for _, n := range extremes {
		for bits := -1; bits <= 9; bits++ {
			add(n, bits)
		}
		add(0, n)
		add(64, n)
		add(255, n)
		add(n, n)
	}
	return all
}

// addresses are all addresses, and numbers that are none.
func addresses() []int {
	all := append([]int{}, extremes...)
	for n := 0; n <= 255; n++ {
		all = append(all, n)
	}
	return all
}

func members(r impl.Range) []int {
	var all []int
	for n := 0; n <= 255; n++ {
		if covers(r, n) {
			all = append(all, n)
		}
	}
	return all
}

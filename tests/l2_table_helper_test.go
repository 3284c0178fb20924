package tests

import (
	"slices"
	"sort"

	"loop.example/wayboard/impl"
)

// The expectations here read the document's sentences over plain lists, so that they share no trie with the program.

func entry(first, bits, via int) impl.Entry {
	return impl.Entry{Range: impl.Range{First: first, Bits: bits}, Via: via}
}

func before(a, b impl.Range) bool {
	return a.First < b.First || a.First == b.First && a.Bits < b.Bits
}

func isEntry(e impl.Entry) bool {
	return isPrefix(e.Range) && 1 <= e.Via && e.Via <= 9
}

func isTable(l []impl.Entry) bool {
	for i, e := range l {
		if !isEntry(e) || i > 0 && !before(l[i-1].Range, e.Range) {
			return false
		}
	}
	return len(l) <= 12
}

// nextHop is the next hop of the longest prefix of a table that covers an address.
func nextHop(l []impl.Entry, addr int) int {
	via, bits := 0, -1
	for _, e := range l {
		if covers(e.Range, addr) && e.Range.Bits > bits {
			via, bits = e.Via, e.Range.Bits
		}
	}
	return via
}

func nextHops(l []impl.Entry) [256]int {
	var all [256]int
	for addr := range all {
		all[addr] = nextHop(l, addr)
	}
	return all
}

func place(l []impl.Entry, r impl.Range) int {
	return slices.IndexFunc(l, func(e impl.Entry) bool { return e.Range == r })
}

// with is a list with an entry, in order, of whatever length.
func with(l []impl.Entry, added ...impl.Entry) []impl.Entry {
	out := slices.Clone(l)
	for _, e := range added {
		if i := place(out, e.Range); i >= 0 {
			out[i] = e
		} else {
			out = append(out, e)
		}
	}
	sort.Slice(out, func(i, j int) bool { return before(out[i].Range, out[j].Range) })
	return out
}

func without(l []impl.Entry, i int) []impl.Entry {
	return slices.Concat(l[:i], l[i+1:])
}

// lessOf examines the entries in order, as the document says.
func lessOf(l []impl.Entry) []impl.Entry {
	out := slices.Clone(l)
	for _, e := range l {
		shorter := without(out, place(out, e.Range))
		if nextHops(shorter) == nextHops(out) {
			out = shorter
		}
	}
	return out
}

func halvesOf(r impl.Range) (impl.Range, impl.Range) {
	bits := r.Bits + 1
	return impl.Range{First: r.First, Bits: bits}, impl.Range{First: r.First + 1<<(8-bits), Bits: bits}
}

// draw gives the same numbers from 0 to below n in each run.
type draw struct{ at uint64 }

func (d *draw) below(n int) int {
	d.at = d.at*6364136223846793005 + 1442695040888963407
	return int(d.at >> 33 % uint64(n))
}

// everyTable are all tables over these prefixes and the next hops 1 to hops.
func everyTable(over []impl.Range, hops int) [][]impl.Entry {
	all := [][]impl.Entry{{}}
	for _, r := range over {
		for _, l := range slices.Clone(all) {
			for via := 1; via <= hops; via++ {
				all = append(all, with(l, impl.Entry{Range: r, Via: via}))
			}
		}
	}
	return all
}

var (
	topPrefixes    = []impl.Range{{First: 0, Bits: 0}, {First: 0, Bits: 1}, {First: 0, Bits: 2}, {First: 64, Bits: 2}, {First: 128, Bits: 1}, {First: 192, Bits: 2}}
	bottomPrefixes = []impl.Range{{First: 252, Bits: 6}, {First: 252, Bits: 7}, {First: 254, Bits: 7}, {First: 254, Bits: 8}, {First: 255, Bits: 8}}
)

// chain are the entries for all lengths from the first prefix to the one address, with next hops that change from one to the next.
func chain(addr int) []impl.Entry {
	var l []impl.Entry
	for bits := 0; bits <= 8; bits++ {
		l = append(l, entry(addr>>(8-bits)<<(8-bits), bits, 9-bits))
	}
	return with(nil, l...)
}

// beside are n entries of 16 addresses each, which leave the addresses from 16*n on without a next hop.
func beside(n int) []impl.Entry {
	var l []impl.Entry
	for i := range n {
		l = append(l, entry(16*i, 4, 1+i%9))
	}
	return l
}

// drawnTable puts entries near each other, so that many are nested and some change nothing.
func drawnTable(d *draw, size int) []impl.Entry {
	var l []impl.Entry
	shift := d.below(6)
	for len(l) < size {
		bits := d.below(9)
		first := d.below(256) >> shift << shift >> (8 - bits) << (8 - bits)
		l = with(l, entry(first, bits, 1+d.below(1+d.below(9))))
	}
	return l
}

func fullTables() [][]impl.Entry {
	all := [][]impl.Entry{beside(12), with(chain(0), beside(15)[12:]...), with(chain(255), entry(0, 1, 1), entry(0, 8, 2), entry(64, 2, 3))}
	d := &draw{at: 12}
	for range 12 {
		all = append(all, drawnTable(d, 12))
	}
	return all
}

// tables are valid tables: small ones, all of them, and nested, full and drawn ones.
func tables() [][]impl.Entry {
	all := [][]impl.Entry{nil, {}, {entry(0, 0, 9)}, {entry(77, 8, 1)}, {entry(0, 8, 1)}, {entry(255, 8, 9)}}
	for _, addr := range []int{0, 1, 77, 127, 128, 170, 254, 255} {
		all = append(all, chain(addr))
	}
	all = append(all, fullTables()...)
	all = append(all, everyTable(topPrefixes, 2)...)
	all = append(all, everyTable(bottomPrefixes, 2)...)
	d := &draw{at: 1}
	for range 200 {
		all = append(all, drawnTable(d, d.below(12)))
	}
	return all
}

// fewTables is each fifth table, for tests that try many entries with each.
func fewTables() [][]impl.Entry {
	all := fullTables()
	for i, l := range tables() {
		if i < 20 || i%5 == 0 {
			all = append(all, l)
		}
	}
	return all
}

// someEntries are of each length, and of prefixes that a table has and that it does not have.
func someEntries(l []impl.Entry) []impl.Entry {
	all := []impl.Entry{entry(0, 0, 3), entry(128, 1, 1), entry(64, 2, 9), entry(96, 3, 2), entry(240, 4, 5), entry(248, 5, 4), entry(76, 6, 1), entry(254, 7, 2), entry(77, 8, 3), entry(0, 8, 7), entry(255, 8, 8)}
	for i, e := range l {
		all = append(all, e, impl.Entry{Range: e.Range, Via: 1 + e.Via%9})
		if e.Range.Bits < 8 {
			lower, upper := halvesOf(e.Range)
			all = append(all, impl.Entry{Range: lower, Via: e.Via}, impl.Entry{Range: upper, Via: 1 + i%9})
		}
	}
	return all
}

func notVias() []int {
	return append([]int{0, 10, 11, 19, 64, 255}, extremes...)
}

func notEntries() []impl.Entry {
	var all []impl.Entry
	for _, r := range notPrefixes() {
		all = append(all, impl.Entry{Range: r, Via: 1})
	}
	for _, via := range notVias() {
		all = append(all, entry(64, 2, via), entry(0, 0, via), entry(255, 8, via), entry(0, 9, via))
	}
	return all
}

// notTables are of each kind that is no table: too long, out of order, with a prefix twice, with an invalid prefix or next hop.
func notTables() [][]impl.Entry {
	all := [][]impl.Entry{
		beside(13), beside(16), with(chain(77), beside(10)...),
		{entry(64, 2, 1), entry(0, 0, 1)}, {entry(0, 1, 1), entry(0, 0, 1)}, {entry(1, 8, 1), entry(0, 8, 1)}, {entry(64, 2, 1), entry(0, 8, 1)},
		{entry(64, 2, 1), entry(64, 2, 1)}, {entry(64, 2, 1), entry(64, 2, 2)}, {entry(0, 0, 1), entry(64, 2, 1), entry(0, 0, 1)},
		{entry(0, 0, 1), entry(0, 1, 1), entry(128, 1, 1), entry(64, 2, 1)},
		make([]impl.Entry, 1), make([]impl.Entry, 12), make([]impl.Entry, 13), make([]impl.Entry, 5000),
	}
	for _, bad := range notEntries() {
		all = append(all, []impl.Entry{bad}, []impl.Entry{entry(0, 0, 1), bad}, []impl.Entry{bad, entry(255, 8, 1)})
	}
	for _, l := range fullTables() {
		bad := slices.Clone(l)
		bad[len(bad)-1].Via = 10
		all = append(all, bad, slices.Concat(l, l), slices.Concat(l, l[11:]))
	}
	return all
}

package tests

import (
	"slices"
	"strings"

	"loop.example/wayboard/impl"
)

// The expectations here compare seals field by field and look through plain lists, so that they share no set and no key with the program.

func hold(house, first, bits int) impl.Hold {
	return impl.Hold{House: house, Range: impl.Range{First: first, Bits: bits}}
}

func seal(by, to int, r impl.Range, path ...int) impl.Seal {
	return impl.Seal{By: by, To: to, Range: r, Path: path}
}

func plainRoute(r impl.Range, path []int) impl.Route {
	return impl.Route{Range: r, Path: path}
}

func sameSeal(a, b impl.Seal) bool {
	return a.By == b.By && a.To == b.To && a.Range == b.Range && slices.Equal(a.Path, b.Path)
}

func sameSeals(a, b []impl.Seal) bool {
	return slices.EqualFunc(a, b, sameSeal)
}

func isSealed(l []impl.Seal, s impl.Seal) bool {
	return slices.ContainsFunc(l, func(x impl.Seal) bool { return sameSeal(x, s) })
}

// isHeld compares texts of bits. A holder is compared as a number, as the document names no numbers that HoldHas does not take.
func isHeld(l []impl.Hold, house int, r impl.Range) bool {
	return slices.ContainsFunc(l, func(h impl.Hold) bool {
		return h.House == house && isPrefix(h.Range) && isPrefix(r) && strings.HasPrefix(leadingBits(r), leadingBits(h.Range))
	})
}

// told is a route, and to whom it is announced.
type told struct {
	route impl.Route
	to    int
}

func (x told) ok() bool {
	return isValidRoute(x.route) && 1 <= x.to && x.to <= 5 && !slices.Contains(x.route.Path, x.to)
}

// seals are none of what cannot be announced.
func (x told) seals() []impl.Seal {
	if !x.ok() {
		return nil
	}
	// The one to whom it is announced and the path are one chain, in which each tells the one ahead of it.
	chain := append([]int{x.to}, x.route.Path...)
	var all []impl.Seal
	for len(chain) > 1 {
		to := chain[0]
		chain = chain[1:]
		all = append(all, seal(chain[0], to, x.route.Range, slices.Clone(chain)...))
	}
	return all
}

func (x told) origin() int {
	return x.route.Path[len(x.route.Path)-1]
}

func (x told) lacks(holds []impl.Hold, l []impl.Seal) int {
	if !x.ok() {
		return -2
	}
	if !isHeld(holds, x.origin(), x.route.Range) {
		return -1
	}
	for _, s := range x.seals() {
		if !isSealed(l, s) {
			return s.By
		}
	}
	return 0
}

// of is the same announcement of another prefix.
func (x told) of(r impl.Range) told {
	x.route.Range = r
	return x
}

// tolds are the routes to a prefix along each path, announced to each system that is not on it.
func tolds(r impl.Range) []told {
	var all []told
	for _, p := range paths()[1:] {
		for to := 1; to <= 5; to++ {
			if !slices.Contains(p, to) {
				all = append(all, told{plainRoute(r, p), to})
			}
		}
	}
	return all
}

// fewTolds have paths of each length that can be announced, and prefixes of all addresses, of one and of some.
func fewTolds() []told {
	return []told{
		{route(64, 2, []int{3}, 5), 1},
		{route(0, 0, []int{1}, 0, 1, 9), 5},
		{route(255, 8, []int{2, 3}, 9), 1},
		{route(64, 2, []int{5, 4}, 5, 2, 7), 3},
		{route(0, 0, []int{3, 1, 2}, 5), 4},
		{route(96, 3, []int{4, 5, 1}, 3, 9), 2},
		{route(64, 2, []int{1, 2, 3, 4}, 5), 5},
		{route(0, 8, []int{5, 3, 4, 2}, 0, 1, 2, 3, 4, 5, 6, 7, 8, 9), 1},
		{route(0, 1, []int{4, 2, 5, 3}, 9, 3), 1},
	}
}

// notTolds are valid routes that are announced to a system on their path, or to no system.
func notTolds() []told {
	var all []told
	for _, p := range paths()[1:] {
		for _, to := range p {
			all = append(all, told{plainRoute(quarter, p), to})
		}
	}
	for _, p := range [][]int{{1}, {5}, {2, 3}, {3, 1, 2}, {1, 2, 3, 4}, {1, 2, 3, 4, 5}} {
		for _, to := range notHouses() {
			all = append(all, told{plainRoute(quarter, p), to})
		}
	}
	return all
}

// allHold is that every system holds all addresses.
func allHold() []impl.Hold {
	return []impl.Hold{hold(1, 0, 0), hold(2, 0, 0), hold(3, 0, 0), hold(4, 0, 0), hold(5, 0, 0)}
}

func holdBy(house int, r impl.Range) []impl.Hold {
	return []impl.Hold{{House: house, Range: r}}
}

// covering are the prefixes that cover a prefix, from that of all addresses to itself.
func covering(r impl.Range) []impl.Range {
	var all []impl.Range
	for _, x := range prefixes() {
		if strings.HasPrefix(leadingBits(r), leadingBits(x)) {
			all = append(all, x)
		}
	}
	return all
}

// askedPrefixes are nested in each other and beside each other, up to all addresses and down to one.
func askedPrefixes() []impl.Range {
	return []impl.Range{
		{First: 0, Bits: 0}, {First: 0, Bits: 1}, {First: 128, Bits: 1}, {First: 0, Bits: 2}, {First: 64, Bits: 2}, {First: 64, Bits: 3}, {First: 96, Bits: 3}, {First: 96, Bits: 4}, {First: 128, Bits: 2},
		{First: 0, Bits: 8}, {First: 64, Bits: 8}, {First: 127, Bits: 8}, {First: 128, Bits: 8}, {First: 254, Bits: 7}, {First: 254, Bits: 8}, {First: 255, Bits: 8},
	}
}

func drawnHold(d *draw, from []impl.Range) impl.Hold {
	return impl.Hold{House: 1 + d.below(5), Range: from[d.below(len(from))]}
}

// holdLists are of no, one and several prefixes, by one and by several systems.
func holdLists() [][]impl.Hold {
	all := [][]impl.Hold{nil, {}, allHold()}
	for _, r := range askedPrefixes() {
		for house := 1; house <= 5; house++ {
			all = append(all, holdBy(house, r))
		}
		// The same prefix held by two systems, and one holding twice.
		all = append(all, append(holdBy(2, r), holdBy(4, r)...), append(holdBy(3, r), holdBy(3, r)...))
	}
	all = append(all,
		[]impl.Hold{hold(3, 64, 3), hold(3, 96, 3)},                // both halves, but not the whole
		[]impl.Hold{hold(3, 64, 3), hold(1, 96, 3)},                // the halves by two systems
		[]impl.Hold{hold(3, 0, 0), hold(3, 64, 2), hold(3, 64, 8)}, // nested, of one system
		[]impl.Hold{hold(1, 0, 0), hold(2, 64, 2), hold(3, 64, 8)}, // nested, of several
		[]impl.Hold{hold(3, 64, 8), hold(2, 64, 2), hold(1, 0, 0)},
		[]impl.Hold{hold(5, 0, 1), hold(5, 128, 1), hold(1, 64, 2), hold(1, 64, 2)},
	)
	d := &draw{at: 131}
	for n := 2; n <= 9; n++ {
		for range 6 {
			var few, any []impl.Hold
			for range n {
				few, any = append(few, drawnHold(d, askedPrefixes())), append(any, drawnHold(d, prefixes()))
			}
			all = append(all, few, any)
		}
	}
	return all
}

// notHolds hold nothing: what they hold is no prefix, or whoever holds it is no system.
func notHolds() []impl.Hold {
	var all []impl.Hold
	for _, r := range fewNotPrefixes() {
		all = append(all, impl.Hold{House: 3, Range: r}, impl.Hold{House: 1, Range: r})
	}
	for _, house := range notHouses() {
		all = append(all, hold(house, 0, 0), hold(house, 64, 2), impl.Hold{House: house, Range: impl.Range{First: house, Bits: house}})
	}
	return all
}

// fewNotPrefixes look as if they covered much or stood within much, for tests that try many other things with each.
func fewNotPrefixes() []impl.Range {
	all := []impl.Range{{First: 0, Bits: -1}, {First: 0, Bits: 9}, {First: 64, Bits: -1}, {First: 64, Bits: 9}, {First: 64, Bits: 1}, {First: 65, Bits: 2}, {First: 1, Bits: 0}, {First: 255, Bits: 0}, {First: 256, Bits: 8}, {First: 256, Bits: 0}, {First: -1, Bits: 8}, {First: -64, Bits: 2}}
	for _, n := range extremes {
		all = append(all, impl.Range{First: n, Bits: n}, impl.Range{First: 64, Bits: n})
	}
	return slices.DeleteFunc(all, isPrefix)
}

// sealFields are numbers of systems and of none, among them those that look alike if only some of their bits or digits are compared.
func sealFields() []int {
	return slices.Concat([]int{1, 2, 3, 4, 5}, notHouses(), []int{11, 12, 21, 111, 0xD800, 0xD801, 0xDFFF, 0xFFFD, 0x10FFFF, 0x110000})
}

// sealPaths are paths, and what is none, among them lists that look alike if their numbers are written one behind the other, shortened or sorted.
func sealPaths() [][]int {
	all := [][]int{
		{}, {0}, {0, 0}, {0, 0, 0}, {1}, {1, 1}, {1, 1, 1}, {11}, {111}, {11, 1}, {1, 11}, {12}, {1, 2}, {2, 1}, {1, -2}, {-1, 2}, {-1, -2}, {-12}, {1, 0}, {0, 1}, {10}, {1, 0, 2}, {10, 2}, {1, 2, 3}, {1, 3, 2}, {3, 2, 1}, {12, 3}, {1, 23}, {123},
		{1, 2, 3, 4}, {2, 3, 4}, {1, 2, 3, 4, 5}, {5, 4, 3, 2, 1}, {1, 2, 3, 4, 5, 6}, {6}, {-1}, {256}, {257}, {1, 256}, {257, 2}, {0xD800}, {0xD801}, {0xFFFD}, {0x110000}, {-1, -1}, {1, 2, 0}, {0, 1, 2}, {1, 2, 1, 2},
		make([]int, 40), make([]int, 41), slices.Repeat([]int{1, 2}, 2000), append(slices.Repeat([]int{1, 2}, 2000), 1),
	}
	for _, n := range extremes {
		all = append(all, []int{n}, []int{n, 1}, []int{1, n, 2})
	}
	return all
}

// sealsLike are all seals that differ from a seal in one field alone: by whom, to whom, the first address, the bits, the length of the path, or one system of it.
func sealsLike(s impl.Seal) []impl.Seal {
	var all []impl.Seal
	for _, n := range sealFields() {
		by, to, first, bits := s, s, s, s
		by.By, to.To, first.Range.First, bits.Range.Bits = n, n, n, n
		all = append(all, by, to, first, bits)
		for i := range s.Path {
			one := s
			one.Path = slices.Clone(s.Path)
			one.Path[i] = n
			all = append(all, one)
		}
		for i := range len(s.Path) + 1 {
			longer := s
			longer.Path = slices.Insert(slices.Clone(s.Path), i, n)
			all = append(all, longer)
		}
	}
	for i := range s.Path {
		shorter, ahead, behind := s, s, s
		shorter.Path = slices.Concat(s.Path[:i], s.Path[i+1:])
		ahead.Path, behind.Path = s.Path[:i], s.Path[i+1:]
		all = append(all, shorter, ahead, behind)
	}
	return slices.DeleteFunc(all, func(x impl.Seal) bool { return sameSeal(x, s) })
}

// notSeals are seals that no system makes, with what is no system, no prefix or no path in them.
func notSeals() []impl.Seal {
	var all []impl.Seal
	for _, n := range notHouses() {
		all = append(all, seal(n, 1, quarter, 3), seal(3, n, quarter, 3), seal(3, 1, quarter, n), seal(n, n, impl.Range{First: n, Bits: n}, n, n), seal(3, 1, quarter, 3, n))
	}
	for _, r := range fewNotPrefixes() {
		all = append(all, seal(3, 1, r, 3), seal(2, 1, r, 2, 3))
	}
	for _, p := range notPaths() {
		all = append(all, seal(3, 1, quarter, p...))
	}
	return append(all, impl.Seal{}, seal(3, 1, quarter), seal(3, 3, quarter, 3), seal(3, 1, quarter, 2), seal(1, 3, quarter, 3))
}

// sealOrders are all orders of seals.
func sealOrders(l []impl.Seal) [][]impl.Seal {
	if len(l) == 0 {
		return [][]impl.Seal{nil}
	}
	var all [][]impl.Seal
	for i := range l {
		for _, rest := range sealOrders(slices.Concat(l[:i], l[i+1:])) {
			all = append(all, append([]impl.Seal{l[i]}, rest...))
		}
	}
	return all
}

// sealSubsets are all lists that have some of the seals, in order.
func sealSubsets(l []impl.Seal) [][]impl.Seal {
	var all [][]impl.Seal
	for set := range 1 << len(l) {
		var some []impl.Seal
		for i, s := range l {
			if set>>i&1 == 1 {
				some = append(some, s)
			}
		}
		all = append(all, some)
	}
	return all
}

// allSealsOf are the seals of all routes to a prefix, announced to all systems.
func allSealsOf(r impl.Range) []impl.Seal {
	var all []impl.Seal
	for _, x := range tolds(r) {
		all = append(all, x.seals()...)
	}
	return all
}

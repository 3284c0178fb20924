package tests

import (
	"slices"
	"testing"

	"loop.example/wayboard/impl"
)

func TestSealLimits(t *testing.T) {
	if impl.HouseMax != 5 {
		t.Error(impl.HouseMax)
	}
	if n := len(tolds(quarter)); n != 320 {
		t.Error("announcements to a prefix:", n)
	}
}

func TestP67HasForEachTwoPrefixes(t *testing.T) {
	known := prefixes()
	for _, held := range known {
		l := holdBy(3, held)
		for _, asked := range known {
			want := isHeld(l, 3, asked)
			if got := impl.HoldHas(l, 3, asked); got != want {
				t.Fatalf("3 holds %v: %v: %v", held, asked, got)
			}
			if want && impl.HoldHas(l, 4, asked) {
				t.Fatalf("3 holds %v, and 4 has %v", held, asked)
			}
		}
	}
}

func TestP67HasOfLists(t *testing.T) {
	for _, l := range holdLists() {
		for house := 0; house <= 6; house++ {
			for _, asked := range append(askedPrefixes(), alone) {
				if got := impl.HoldHas(l, house, asked); got != isHeld(l, house, asked) {
					t.Errorf("%v: %d has %v: %v", l, house, asked, got)
				}
			}
		}
	}
}

func TestP67SomeHoldings(t *testing.T) {
	l := []impl.Hold{hold(3, 64, 2), hold(1, 0, 0), hold(3, 192, 3), hold(4, 224, 3), hold(3, 5, 8)}
	for _, c := range []struct {
		house       int
		first, bits int
		want        bool
	}{
		{3, 64, 2, true}, {3, 64, 3, true}, {3, 96, 3, true}, {3, 64, 8, true}, {3, 127, 8, true}, {3, 192, 3, true}, {3, 223, 8, true}, {3, 5, 8, true}, // held, or covered
		{3, 0, 1, false}, {3, 0, 0, false}, {3, 192, 2, false}, {3, 4, 7, false}, // they cover a held one
		{3, 0, 2, false}, {3, 128, 2, false}, {3, 63, 8, false}, {3, 128, 8, false}, {3, 224, 3, false}, {3, 4, 8, false}, {3, 6, 8, false}, // beside them
		{4, 224, 3, true}, {4, 255, 8, true}, {4, 192, 2, false}, {4, 192, 3, false}, {4, 64, 2, false},
		{1, 0, 0, true}, {1, 64, 2, true}, {1, 255, 8, true}, {1, 128, 1, true},
		{2, 0, 0, false}, {2, 64, 2, false}, {5, 5, 8, false},
	} {
		if got := impl.HoldHas(l, c.house, impl.Range{First: c.first, Bits: c.bits}); got != c.want {
			t.Errorf("%d has %d/%d: %v", c.house, c.first, c.bits, got)
		}
	}
}

func TestP67HasBothHalves(t *testing.T) {
	for i, l := range holdLists() {
		for house := 1; house <= 5; house++ {
			for j, r := range prefixes() {
				if r.Bits == 8 || (i+j)%3 != 0 || !impl.HoldHas(l, house, r) {
					continue
				}
				if lower, upper := halvesOf(r); !impl.HoldHas(l, house, lower) || !impl.HoldHas(l, house, upper) {
					t.Fatalf("%v: %d has %v, but not both halves", l, house, r)
				}
			}
		}
	}
}

// Whoever holds both halves by two holdings does not hold the whole, as no prefix that is held covers it.
func TestP67HalvesAreNotTheWhole(t *testing.T) {
	for _, r := range prefixes() {
		if r.Bits == 8 {
			continue
		}
		lower, upper := halvesOf(r)
		l := append(holdBy(2, lower), holdBy(2, upper)...)
		if impl.HoldHas(l, 2, r) || !impl.HoldHas(l, 2, lower) || !impl.HoldHas(l, 2, upper) {
			t.Errorf("%v and %v, of %v", lower, upper, r)
		}
	}
}

func TestP67OrderAndRepetitionDoNotMatter(t *testing.T) {
	for _, l := range holdLists() {
		turned := slices.Clone(l)
		slices.Reverse(turned)
		for house := 1; house <= 5; house++ {
			for _, asked := range askedPrefixes() {
				want := isHeld(l, house, asked)
				if impl.HoldHas(turned, house, asked) != want || impl.HoldHas(slices.Concat(l, turned), house, asked) != want {
					t.Fatalf("%v, turned or twice: %d and %v", l, house, asked)
				}
			}
		}
	}
}

func TestP68SomeSeals(t *testing.T) {
	for _, c := range []struct {
		path []int
		to   int
		want []impl.Seal
	}{
		{[]int{3}, 1, []impl.Seal{seal(3, 1, quarter, 3)}},
		{[]int{2, 3}, 1, []impl.Seal{seal(2, 1, quarter, 2, 3), seal(3, 2, quarter, 3)}},
		{[]int{3, 1, 2}, 4, []impl.Seal{seal(3, 4, quarter, 3, 1, 2), seal(1, 3, quarter, 1, 2), seal(2, 1, quarter, 2)}},
		{[]int{3, 1, 2}, 5, []impl.Seal{seal(3, 5, quarter, 3, 1, 2), seal(1, 3, quarter, 1, 2), seal(2, 1, quarter, 2)}},
		{[]int{5, 4, 2, 1}, 3, []impl.Seal{seal(5, 3, quarter, 5, 4, 2, 1), seal(4, 5, quarter, 4, 2, 1), seal(2, 4, quarter, 2, 1), seal(1, 2, quarter, 1)}},
		{[]int{3}, 3, nil}, {[]int{2, 3}, 2, nil}, {[]int{2, 3}, 3, nil}, {[]int{3, 1, 2}, 1, nil}, {[]int{1, 2, 3, 4, 5}, 1, nil}, {[]int{1, 2, 3, 4, 5}, 5, nil},
	} {
		if got := impl.SealMake(plainRoute(quarter, c.path), c.to); !sameSeals(got, c.want) {
			t.Errorf("%v to %d: %v", c.path, c.to, got)
		}
	}
}

func TestP68MakeForEachPathAndRecipient(t *testing.T) {
	for _, r := range askedPrefixes() {
		for _, p := range paths()[1:] {
			for to := 1; to <= 5; to++ {
				x := told{plainRoute(r, p), to}
				got := impl.SealMake(x.route, to)
				if !sameSeals(got, x.seals()) {
					t.Fatalf("%v to %d: %v", x.route, to, got)
				}
				if slices.Contains(p, to) != (len(got) == 0) {
					t.Fatalf("%v to %d: %d seals", x.route, to, len(got))
				}
			}
		}
	}
}

func TestP68MakeForEachPrefix(t *testing.T) {
	for _, r := range prefixes() {
		for _, x := range fewTolds() {
			if y := x.of(r); !sameSeals(impl.SealMake(y.route, y.to), y.seals()) {
				t.Errorf("%v to %d: %v", y.route, y.to, impl.SealMake(y.route, y.to))
			}
		}
	}
}

// Each seal is by one system of the path, to the one that stands ahead of it, for what of the path begins with it.
func TestP68OneSealForEachSystem(t *testing.T) {
	for _, x := range tolds(impl.Range{First: 96, Bits: 3}) {
		l := impl.SealMake(x.route, x.to)
		if len(l) != len(x.route.Path) {
			t.Fatalf("%v to %d: %d seals", x.route, x.to, len(l))
		}
		for i, s := range l {
			to := x.to
			if i > 0 {
				to = l[i-1].By
			}
			if s.By != x.route.Path[i] || s.To != to || s.Range != x.route.Range || !slices.Equal(s.Path, x.route.Path[i:]) {
				t.Fatalf("%v to %d: seal %d: %v", x.route, x.to, i, s)
			}
		}
	}
}

// Only the first seal tells to whom the route is announced.
func TestP68OnlyTheFirstSealIsForTheRecipient(t *testing.T) {
	for _, x := range tolds(everything) {
		for _, y := range tolds(everything) {
			if x.to == y.to || !slices.Equal(x.route.Path, y.route.Path) {
				continue
			}
			a, b := impl.SealMake(x.route, x.to), impl.SealMake(y.route, y.to)
			if a[0].To != x.to || b[0].To != y.to || !sameSeals(a[1:], b[1:]) {
				t.Fatalf("%v to %d and %d: %v %v", x.route, x.to, y.to, a, b)
			}
		}
	}
}

func TestP69HasIfSomeSealIsEqual(t *testing.T) {
	universe := slices.Concat(allSealsOf(quarter)[:120], allSealsOf(everything)[:40], notSeals()[:60])
	for step := 2; step <= 5; step++ {
		var l []impl.Seal
		for i := 0; i < len(universe); i += step {
			l = append(l, universe[i])
		}
		for _, s := range universe {
			if got := impl.SealHas(l, s); got != isSealed(l, s) {
				t.Fatalf("each of %d seals: %v: %v", step, s, got)
			}
		}
	}
}

func TestP69DifferentInOneField(t *testing.T) {
	for _, s := range []impl.Seal{seal(3, 1, quarter, 3), seal(2, 1, impl.Range{First: 96, Bits: 3}, 2, 3), seal(4, 5, everything, 4, 3, 2, 1), seal(1, 2, impl.Range{First: 255, Bits: 8}, 1, 5)} {
		like := sealsLike(s)
		for _, other := range like {
			if impl.SealHas([]impl.Seal{other}, s) || impl.SealHas([]impl.Seal{s}, other) || !impl.SealHas([]impl.Seal{other}, other) {
				t.Fatalf("%v and %v", s, other)
			}
		}
		if impl.SealHas(like, s) {
			t.Errorf("%v among those that differ in one field", s)
		}
		if !impl.SealHas(append(slices.Clone(like), s), s) || !impl.SealHas(append([]impl.Seal{s}, like...), s) {
			t.Errorf("%v at the end of those that differ in one field", s)
		}
	}
}

// Two fields exchanged, or a number moved from one field to another, are another seal.
func TestP69FieldsDoNotMix(t *testing.T) {
	l := []impl.Seal{seal(1, 2, impl.Range{First: 4, Bits: 6}, 5, 3)}
	for _, s := range []impl.Seal{
		seal(2, 1, impl.Range{First: 4, Bits: 6}, 5, 3), seal(1, 2, impl.Range{First: 6, Bits: 4}, 5, 3), seal(1, 4, impl.Range{First: 2, Bits: 6}, 5, 3), seal(1, 2, impl.Range{First: 4, Bits: 6}, 3, 5),
		seal(1, 2, impl.Range{First: 4, Bits: 5}, 6, 3), seal(1, 2, impl.Range{First: 4, Bits: 65}, 3), seal(1, 24, impl.Range{First: 6, Bits: 5}, 3), seal(12, 4, impl.Range{First: 6, Bits: 5}, 3), seal(1, 2, impl.Range{First: 46, Bits: 5}, 3), seal(1, 2, impl.Range{First: 4, Bits: 6}, 53),
	} {
		if impl.SealHas(l, s) {
			t.Errorf("%v in %v", s, l)
		}
	}
}

func TestP69ListsOfNumbersAreNotConfused(t *testing.T) {
	all := sealPaths()
	for _, p := range all {
		l := []impl.Seal{seal(1, 2, quarter, p...)}
		for _, q := range all {
			if got := impl.SealHas(l, seal(1, 2, quarter, q...)); got != slices.Equal(p, q) {
				t.Fatalf("%v and %v: %v", p, q, got)
			}
		}
	}
}

func TestP69NoSealsAndSealsTwice(t *testing.T) {
	for _, s := range append(notSeals(), allSealsOf(quarter)[:100]...) {
		if impl.SealHas(nil, s) || impl.SealHas([]impl.Seal{}, s) {
			t.Errorf("%v in no seals", s)
		}
		if other := seal(2, 5, everything, 2, 1); !impl.SealHas([]impl.Seal{s, s}, s) || !impl.SealHas([]impl.Seal{other, s, other, s, other}, s) {
			t.Errorf("%v twice", s)
		}
	}
	// No path is the same, whether nil or empty.
	none, empty := seal(1, 2, quarter), impl.Seal{By: 1, To: 2, Range: quarter, Path: []int{}}
	if !impl.SealHas([]impl.Seal{none}, empty) || !impl.SealHas([]impl.Seal{empty}, none) {
		t.Error("nil and empty path")
	}
}

package tests

import (
	"slices"
	"testing"

	"loop.example/wayboard/impl"
)

func TestP67NoPrefixIsHeldOrAskedFor(t *testing.T) {
	for _, bad := range notPrefixes() {
		for _, l := range [][]impl.Hold{nil, allHold(), holdBy(3, bad), append(allHold(), holdBy(3, bad)...)} {
			if impl.HoldHas(l, 3, bad) {
				t.Fatalf("%v: 3 has %v", l, bad)
			}
		}
		for _, asked := range []impl.Range{everything, quarter, alone, {First: 0, Bits: 8}, {First: 255, Bits: 8}} {
			if impl.HoldHas(holdBy(3, bad), 3, asked) {
				t.Fatalf("3 holds %v, which is no prefix: %v", bad, asked)
			}
		}
	}
}

func TestP67InvalidHoldingsBesideValidOnes(t *testing.T) {
	bad := notHolds()
	for _, l := range holdLists() {
		if len(l) > 3 {
			continue
		}
		mixed := slices.Concat(bad, l, bad)
		for house := 1; house <= 5; house++ {
			for _, asked := range askedPrefixes() {
				if got := impl.HoldHas(mixed, house, asked); got != isHeld(l, house, asked) {
					t.Fatalf("%v among invalid ones: %d has %v: %v", l, house, asked, got)
				}
			}
		}
	}
}

func TestP67NoSystemHasWhatOthersHold(t *testing.T) {
	for _, bad := range notHouses() {
		for _, asked := range askedPrefixes() {
			if impl.HoldHas(allHold(), bad, asked) || impl.HoldHas(nil, bad, asked) {
				t.Fatalf("%d has %v", bad, asked)
			}
			for house := 1; house <= 5; house++ {
				if impl.HoldHas(holdBy(bad, everything), house, asked) {
					t.Fatalf("%d holds all, and %d has %v", bad, house, asked)
				}
			}
		}
	}
}

// The document names no numbers that HoldHas does not take as a system, so a holder is only compared, and no route is from such a one.
func TestP67P72HoldersThatAreNoSystems(t *testing.T) {
	for _, bad := range notHouses() {
		if l := holdBy(bad, quarter); !impl.HoldHas(l, bad, quarter) || impl.HoldHas(l, bad, everything) || impl.HoldHas(l, bad, impl.Range{First: 65, Bits: 2}) {
			t.Errorf("%d holds %v", bad, quarter)
		}
		for _, x := range fewTolds() {
			lacks(t, holdBy(bad, everything), x.seals(), x, -1)
			y := x
			y.route.Path = append(slices.Clone(x.route.Path), bad)
			lacks(t, holdBy(bad, everything), y.seals(), y, -2)
		}
	}
}

// chained are the seals that an invalid route would have if it were valid.
func chained(r impl.Route, to int) []impl.Seal {
	var l []impl.Seal
	for i, house := range r.Path[:min(len(r.Path), 8)] {
		l = append(l, impl.Seal{By: house, To: to, Range: r.Range, Path: r.Path[i:]})
		to = house
	}
	return l
}

func TestP68P70InvalidRoutes(t *testing.T) {
	for _, bad := range slices.Concat(notRoutes(), fewNotRoutes()) {
		for to := 1; to <= 5; to += 2 {
			if got := impl.SealMake(bad, to); len(got) != 0 {
				t.Fatalf("%v to %d: %v", bad, to, got)
			}
			lacks(t, allHold(), chained(bad, to), told{bad, to}, -2)
			lacks(t, nil, nil, told{bad, to}, -2)
		}
	}
}

// The path, the preference and the marks of a route are invalid, but its seals are all there.
func TestP70InvalidRoutesWithTheSealsOfAValidOne(t *testing.T) {
	for _, x := range fewTolds() {
		l := x.seals()
		for _, like := range notLikes() {
			y := x
			y.route.Like = like
			lacks(t, allHold(), l, y, -2)
		}
		for _, marks := range notMarkLists() {
			y := x
			y.route.Marks = marks
			lacks(t, allHold(), l, y, -2)
			if got := impl.SealMake(y.route, y.to); len(got) != 0 {
				t.Fatalf("%v to %d: %v", y.route, y.to, got)
			}
		}
		for i := range x.route.Path {
			y := x
			y.route.Path = slices.Insert(slices.Clone(x.route.Path), i, x.route.Path[i])
			lacks(t, allHold(), append(chained(y.route, y.to), l...), y, -2)
		}
	}
}

func TestP68P70P73ToThoseOnThePathAndToNoSystem(t *testing.T) {
	for _, x := range notTolds() {
		if got := impl.SealMake(x.route, x.to); len(got) != 0 {
			t.Errorf("%v to %d: %v", x.route, x.to, got)
		}
		// Neither holdings nor seals make up for it, and it counts ahead of what else lacks.
		lacks(t, allHold(), chained(x.route, x.to), x, -2)
		lacks(t, nil, chained(x.route, x.to), x, -2)
		lacks(t, allHold(), nil, x, -2)
		lacks(t, nil, nil, x, -2)
	}
}

func TestP69InvalidSealsAreOnlyCompared(t *testing.T) {
	all := notSeals()
	for i, s := range all {
		if !impl.SealHas(all, s) || !impl.SealHas([]impl.Seal{s}, s) {
			t.Errorf("%v is there", s)
		}
		if i%5 > 0 {
			continue
		}
		for _, other := range all {
			if got := impl.SealHas([]impl.Seal{other}, s); got != sameSeal(other, s) {
				t.Fatalf("%v and %v: %v", other, s, got)
			}
		}
		rest := slices.DeleteFunc(slices.Clone(all), func(x impl.Seal) bool { return sameSeal(x, s) })
		if impl.SealHas(rest, s) {
			t.Errorf("%v is not there", s)
		}
	}
}

func TestP69P70InvalidSealsBesideValidOnes(t *testing.T) {
	bad := notSeals()
	for _, x := range append(fewTolds(), tolds(quarter)[:40]...) {
		l := x.seals()
		for _, s := range l {
			if impl.SealHas(bad, s) || !impl.SealHas(slices.Concat(bad, l), s) || !impl.SealHas(slices.Concat(l, bad), s) {
				t.Errorf("%v beside invalid ones", s)
			}
		}
		for _, some := range sealSubsets(l) {
			lacks(t, allHold(), slices.Concat(bad, some, bad), x, x.lacks(allHold(), some))
		}
		lacks(t, notHolds(), l, x, -1)
		lacks(t, slices.Concat(notHolds(), allHold(), notHolds()), l, x, 0)
	}
}

func TestP67P68P69P70EmptyAndNil(t *testing.T) {
	x := told{plainRoute(quarter, []int{2, 3}), 1}
	for _, holds := range [][]impl.Hold{nil, {}} {
		for _, l := range [][]impl.Seal{nil, {}, x.seals()} {
			lacks(t, holds, l, x, -1)
			for _, p := range [][]int{nil, {}} {
				lacks(t, holds, l, told{plainRoute(quarter, p), 1}, -2)
				if got := impl.SealMake(plainRoute(quarter, p), 1); len(got) != 0 {
					t.Errorf("no path: %v", got)
				}
			}
		}
		if impl.HoldHas(holds, 1, quarter) {
			t.Error("no holdings")
		}
	}
	for _, l := range [][]impl.Seal{nil, {}} {
		lacks(t, allHold(), l, x, 2)
	}
	y := x
	y.route.Marks = []int{}
	lacks(t, allHold(), x.seals(), y, 0)
	if !sameSeals(impl.SealMake(y.route, 1), impl.SealMake(x.route, 1)) {
		t.Error("nil and empty marks")
	}
}

package tests

import (
	"slices"
	"testing"

	"loop.example/wayboard/impl"
)

// lacks checks SealLacks against the document's sentence, and SealOk against SealLacks.
func lacks(t *testing.T, holds []impl.Hold, l []impl.Seal, x told, want int) {
	t.Helper()
	if got := impl.SealLacks(holds, l, x.route, x.to); got != want {
		t.Errorf("%v to %d, with %d holdings and %d seals, lacks %d, not %d", x.route, x.to, len(holds), len(l), got, want)
	}
	if got := impl.SealOk(holds, l, x.route, x.to); got != (want == 0) {
		t.Errorf("%v to %d, with %d holdings and %d seals: %v", x.route, x.to, len(holds), len(l), got)
	}
}

func TestP70SomeRoutes(t *testing.T) {
	x := told{route(64, 2, []int{3, 1, 2}, 5, 7), 4}
	all := []impl.Seal{seal(3, 4, quarter, 3, 1, 2), seal(1, 3, quarter, 1, 2), seal(2, 1, quarter, 2)}
	own := []impl.Hold{hold(2, 64, 2)}
	lacks(t, own, all, x, 0)
	lacks(t, own, all[1:], x, 3)
	lacks(t, own, []impl.Seal{all[0], all[2]}, x, 1)
	lacks(t, own, all[:2], x, 2)
	lacks(t, own, all[:1], x, 1)
	lacks(t, own, all[1:2], x, 3)
	lacks(t, own, all[2:], x, 3)
	lacks(t, own, nil, x, 3)
	lacks(t, nil, all, x, -1)
	lacks(t, nil, nil, x, -1)
	lacks(t, []impl.Hold{hold(3, 64, 2), hold(1, 64, 2), hold(4, 0, 0), hold(5, 64, 2), hold(2, 64, 3), hold(2, 96, 3), hold(2, 128, 2)}, all, x, -1)
	lacks(t, own, all, told{x.route, 5}, 3)
	lacks(t, own, all, told{x.route, 3}, -2)
	lacks(t, own, all, told{x.route, 1}, -2)
	lacks(t, own, all, told{x.route, 2}, -2)
	lacks(t, own, all, told{x.route, 0}, -2)
	lacks(t, own, all, told{x.route, 6}, -2)
	lacks(t, own, all, told{plainRoute(quarter, []int{1, 2}), 3}, 0)
	lacks(t, own, all, told{plainRoute(quarter, []int{2}), 1}, 0)
	lacks(t, own, all, told{plainRoute(quarter, []int{3, 2}), 4}, 3)
	lacks(t, own, all, told{plainRoute(quarter, []int{1, 2}), 4}, 1)
	lacks(t, own, all, told{plainRoute(quarter, []int{3, 1}), 4}, -1)
}

func TestP70LacksWithEachSubset(t *testing.T) {
	for _, x := range append(tolds(quarter), fewTolds()...) {
		for _, holds := range [][]impl.Hold{allHold(), holdBy(x.origin(), x.route.Range)} {
			for _, l := range sealSubsets(x.seals()) {
				want := 0
				for _, house := range slices.Backward(x.route.Path) {
					if !slices.ContainsFunc(l, func(s impl.Seal) bool { return s.By == house }) {
						want = house
					}
				}
				lacks(t, holds, l, x, want)
			}
		}
	}
}

// The holdings decide, whatever seals there are: those of the origin, of another system of the path, of one that is not on it, and of no one.
func TestP70LacksTheHolder(t *testing.T) {
	for _, x := range append(tolds(quarter), fewTolds()...) {
		for _, l := range [][]impl.Seal{nil, x.seals(), x.seals()[1:], x.seals()[:len(x.route.Path)-1]} {
			lacks(t, nil, l, x, -1)
			for house := 1; house <= 5; house++ {
				if holds := holdBy(house, x.route.Range); house != x.origin() {
					lacks(t, holds, l, x, -1)
				} else if got := impl.SealLacks(holds, l, x.route, x.to); got == -1 || got != x.lacks(holds, l) {
					t.Errorf("%v to %d, with %d seals: %d, but the origin holds it", x.route, x.to, len(l), got)
				}
			}
		}
	}
}

func TestP70LacksAsTheDocumentSays(t *testing.T) {
	lists, d := holdLists(), &draw{at: 132}
	few := slices.Concat(allSealsOf(quarter), allSealsOf(impl.Range{First: 64, Bits: 3}))
	var seen [8]int
	for _, r := range []impl.Range{quarter, {First: 64, Bits: 3}, everything} {
		for _, x := range tolds(r) {
			for range 12 {
				holds := lists[d.below(len(lists))]
				l := slices.DeleteFunc(x.seals(), func(impl.Seal) bool { return d.below(6) == 0 })
				for range d.below(4) {
					l = slices.Insert(l, d.below(len(l)+1), few[d.below(len(few))])
				}
				want := x.lacks(holds, l)
				lacks(t, holds, l, x, want)
				seen[want+2]++
			}
		}
	}
	for answer, many := range seen[1:] {
		if many < 20 {
			t.Errorf("%d is wanted %d times", answer-1, many)
		}
	}
}

func TestP71OkWithAllSealsInAnyOrder(t *testing.T) {
	for _, x := range append(tolds(quarter), fewTolds()...) {
		for _, l := range sealOrders(x.seals()) {
			lacks(t, holdBy(x.origin(), x.route.Range), l, x, 0)
		}
		lacks(t, holdBy(x.origin(), x.route.Range), impl.SealMake(x.route, x.to), x, 0)
	}
}

func TestP71OkForEachPrefixAndEachThatCoversIt(t *testing.T) {
	for i, r := range prefixes() {
		x := fewTolds()[i%9].of(r)
		l := impl.SealMake(x.route, x.to)
		wide := covering(r)
		for _, held := range wide {
			lacks(t, holdBy(x.origin(), held), l, x, 0)
		}
		for _, held := range askedPrefixes() {
			if !slices.Contains(wide, held) {
				lacks(t, holdBy(x.origin(), held), l, x, -1)
			}
		}
	}
}

func TestP71NotWithoutAnyOne(t *testing.T) {
	for _, x := range append(tolds(quarter), fewTolds()...) {
		l, all := impl.SealMake(x.route, x.to), allSealsOf(x.route.Range)
		for i, house := range x.route.Path {
			lacks(t, allHold(), slices.Concat(l[:i], l[i+1:]), x, house)
			// All other seals of all routes to the prefix do not stand in for it.
			others := slices.DeleteFunc(slices.Clone(all), func(s impl.Seal) bool { return sameSeal(s, l[i]) })
			lacks(t, allHold(), others, x, house)
			// Without two of them, the first one counts.
			for j := range i {
				lacks(t, allHold(), slices.Concat(l[:j], l[j+1:i], l[i+1:]), x, x.route.Path[j])
			}
		}
	}
}

// A seal that differs in one field from one that lacks does not stand in for it.
func TestP71NoSealStandsInForAnother(t *testing.T) {
	for _, x := range fewTolds() {
		l := x.seals()
		for i, house := range x.route.Path {
			lacks(t, allHold(), slices.Concat(l[:i], sealsLike(l[i]), l[i+1:]), x, house)
			for _, other := range sealsLike(l[i]) {
				if got := impl.SealLacks(allHold(), slices.Concat(l[:i], []impl.Seal{other}, l[i+1:]), x.route, x.to); got != house {
					t.Fatalf("%v to %d, with %v: %d", x.route, x.to, other, got)
				}
			}
		}
	}
}

func TestP72NoOtherHolder(t *testing.T) {
	for _, r := range []impl.Range{quarter, everything, {First: 255, Bits: 8}} {
		whatever := allSealsOf(r)
		for _, x := range tolds(r) {
			others := slices.DeleteFunc(allHold(), func(h impl.Hold) bool { return h.House == x.origin() })
			lacks(t, others, x.seals(), x, -1)
			lacks(t, others, whatever, x, -1)
			lacks(t, nil, whatever, x, -1)
			// What the origin holds is part of the prefix, or stands beside it.
			if r.Bits < 8 {
				lower, upper := halvesOf(r)
				others = slices.Concat(others, holdBy(x.origin(), lower), holdBy(x.origin(), upper))
			}
			if r.Bits > 0 {
				others = append(others, impl.Hold{House: x.origin(), Range: impl.Range{First: r.First ^ 1<<(8-r.Bits), Bits: r.Bits}})
			}
			lacks(t, others, whatever, x, -1)
		}
	}
}

// With the seals of one route, each other route along each path, announced to each system, is tried.
func TestP73OnlySuffixesToThePreviousSystem(t *testing.T) {
	all := tolds(quarter)
	for _, x := range all {
		l := impl.SealMake(x.route, x.to)
		chain := append([]int{x.to}, x.route.Path...)
		for _, y := range all {
			n := len(chain) - len(y.route.Path)
			want := n > 0 && slices.Equal(chain[n:], y.route.Path) && chain[n-1] == y.to
			if got := impl.SealOk(allHold(), l, y.route, y.to); got != want {
				t.Fatalf("seals of %v to %d: %v to %d: %v", x.route, x.to, y.route, y.to, got)
			}
		}
		for _, y := range notTolds()[:100] {
			lacks(t, allHold(), l, y, -2)
		}
	}
}

func TestP73NoShortCut(t *testing.T) {
	for _, x := range append(tolds(quarter), fewTolds()...) {
		l := impl.SealMake(x.route, x.to)
		for i := range x.route.Path {
			y := x
			y.route.Path = slices.Concat(x.route.Path[:i], x.route.Path[i+1:])
			if len(y.route.Path) > 0 && impl.SealOk(allHold(), l, y.route, y.to) {
				t.Errorf("%v to %d without %d", x.route, x.to, x.route.Path[i])
			}
		}
		for to := -1; to <= 7; to++ {
			if y := (told{x.route, to}); to != x.to && impl.SealOk(allHold(), l, y.route, y.to) {
				t.Errorf("%v to %d, not to %d", x.route, to, x.to)
			}
		}
	}
}

// Even the seals of all announcements of a path do not make one to a system to whom it was not announced.
func TestP73NoOtherRecipientOfSeveral(t *testing.T) {
	for _, p := range paths()[1:] {
		for to := 1; to <= 5; to++ {
			x := told{plainRoute(quarter, p), to}
			if !x.ok() {
				continue
			}
			var l []impl.Seal
			for other := 1; other <= 5; other++ {
				if y := (told{x.route, other}); other != to {
					l = append(l, y.seals()...)
				}
			}
			lacks(t, allHold(), l, x, p[0])
		}
	}
}

func TestP74NoOtherRange(t *testing.T) {
	for i, r := range prefixes() {
		x := fewTolds()[i%9].of(r)
		l := impl.SealMake(x.route, x.to)
		if r.Bits < 8 {
			lower, upper := halvesOf(r)
			lacks(t, allHold(), l, x.of(lower), x.route.Path[0])
			lacks(t, allHold(), l, x.of(upper), x.route.Path[0])
		}
		for _, other := range append(covering(r), askedPrefixes()...) {
			if other != r {
				lacks(t, allHold(), l, x.of(other), x.route.Path[0])
			}
		}
	}
}

func TestP74NoHalfAlongAnyPath(t *testing.T) {
	lower, upper := halvesOf(quarter)
	for _, x := range tolds(quarter) {
		l := impl.SealMake(x.route, x.to)
		for _, other := range []impl.Range{lower, upper, {First: 0, Bits: 1}, {First: 64, Bits: 8}, {First: 0, Bits: 2}} {
			lacks(t, allHold(), l, x.of(other), x.route.Path[0])
			// One seal of the other prefix is not enough for a path of several systems, and the first one that lacks counts.
			first := x.of(other).seals()[:1]
			lacks(t, allHold(), append(first, l...), x.of(other), x.of(other).lacks(allHold(), first))
		}
	}
}

func TestP75FurtherSealsAndHoldings(t *testing.T) {
	moreSeals := [][]impl.Seal{allSealsOf(quarter), notSeals(), {seal(3, 1, quarter, 3), {}}, {seal(3, 1, everything, 3)}}
	moreHolds := slices.Concat(holdLists(), [][]impl.Hold{notHolds()})
	for _, x := range append(tolds(quarter)[:60], fewTolds()...) {
		l, holds := x.seals(), holdBy(x.origin(), x.route.Range)
		for _, more := range append(moreSeals, l) {
			lacks(t, holds, slices.Concat(l, more), x, 0)
			lacks(t, holds, slices.Concat(more, l), x, 0)
		}
		for _, more := range moreHolds {
			lacks(t, slices.Concat(holds, more), l, x, 0)
			lacks(t, slices.Concat(more, holds), l, x, 0)
		}
	}
}

// Seals and holdings are added one by one, in any order: that may mend a route, but never breaks it.
func TestP75NothingAddedBreaksARoute(t *testing.T) {
	d, mended := &draw{at: 133}, 0
	for _, x := range append(tolds(quarter), fewTolds()...) {
		var holds []impl.Hold
		var l []impl.Seal
		own, before := x.seals(), false
		for range 20 {
			l = append(l, own[d.below(len(own))])
			holds = append(holds, impl.Hold{House: 1 + d.below(5), Range: x.route.Range})
			now := impl.SealOk(holds, l, x.route, x.to)
			if before && !now {
				t.Fatalf("%v to %d: %v and %v break it", x.route, x.to, holds[len(holds)-1], l[len(l)-1])
			}
			if now && !before {
				mended++
			}
			before = now
		}
	}
	if mended < 200 {
		t.Error("routes that were mended:", mended)
	}
}

func TestP75PreferenceAndMarksDoNotMatter(t *testing.T) {
	for _, x := range fewTolds() {
		l, holds := x.seals(), holdBy(x.origin(), x.route.Range)
		for like := 0; like <= 9; like++ {
			for i, marks := range allMarks() {
				if i%23 != like%3 {
					continue
				}
				y := x
				y.route.Like, y.route.Marks = like, marks
				if !sameSeals(impl.SealMake(y.route, y.to), l) {
					t.Fatalf("seals of %v: %v", y.route, impl.SealMake(y.route, y.to))
				}
				lacks(t, holds, l, y, 0)
				lacks(t, holds, l[1:], y, x.route.Path[0])
				lacks(t, nil, l, y, -1)
			}
		}
	}
}

func TestP76ToldOnByOneSystemMore(t *testing.T) {
	for _, x := range append(tolds(quarter), fewTolds()...) {
		l, holds := impl.SealMake(x.route, x.to), holdBy(x.origin(), x.route.Range)
		lacks(t, holds, l, x, 0)
		on := x
		on.route.Path = append([]int{x.to}, x.route.Path...)
		for on.to = 1; on.to <= 5; on.to++ {
			if slices.Contains(on.route.Path, on.to) {
				lacks(t, holds, l, on, -2)
				continue
			}
			added := seal(x.to, on.to, x.route.Range, on.route.Path...)
			lacks(t, holds, append(slices.Clone(l), added), on, 0)
			lacks(t, holds, append([]impl.Seal{added}, l...), on, 0)
			lacks(t, holds, l, on, x.to)
			lacks(t, holds, []impl.Seal{added}, on, x.route.Path[0])
			// The new seal is for one recipient, and the route is still told to the first one.
			for other := 1; other <= 5; other++ {
				if y := (told{on.route, other}); y.ok() && other != on.to {
					lacks(t, holds, append(slices.Clone(l), added), y, x.to)
				}
			}
			lacks(t, holds, append(slices.Clone(l), added), x, 0)
		}
	}
}

// A route told on from its origin up to the last system is sealed at each step, seal by seal.
func TestP76ToldOnStepByStep(t *testing.T) {
	for _, p := range paths() {
		if len(p) != 5 {
			continue
		}
		var l []impl.Seal
		for n := 1; n < 5; n++ {
			x := told{plainRoute(quarter, p[5-n:]), p[4-n]}
			lacks(t, holdBy(p[4], everything), l, x, p[5-n])
			l = append(l, seal(p[5-n], p[4-n], quarter, p[5-n:]...))
			lacks(t, holdBy(p[4], everything), l, x, 0)
		}
		for to := 1; to <= 5; to++ {
			lacks(t, holdBy(p[4], everything), l, told{plainRoute(quarter, p), to}, -2)
		}
	}
}

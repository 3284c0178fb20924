package tests

import (
	"slices"
	"testing"

	"loop.example/wayboard/impl"
)

func isZeroRib(r impl.Rib) bool {
	return sameRib(r, impl.Rib{})
}

func TestP85InvalidTables(t *testing.T) {
	for _, r := range append(notRibs(), fewNotRibs()...) {
		if isRib(r) || impl.RibOk(r) {
			t.Fatalf("%v is no table", r)
		}
	}
}

func TestP85NoSystem(t *testing.T) {
	for _, house := range notHouses() {
		for _, up := range []bool{true, false} {
			if impl.RibOk(impl.Rib{House: house, Up: up}) || impl.RibOk(impl.Rib{House: house, Up: up, All: []impl.Got{}}) {
				t.Errorf("%d is no system", house)
			}
		}
	}
}

// A table is of one neighbor: another number alone, or a route of another one at any place, makes it invalid.
func TestP85RouteOfAnotherNeighbor(t *testing.T) {
	for _, r := range slices.Concat(ribs(), fewRibs()) {
		if len(r.All) == 0 {
			continue
		}
		for house := -1; house <= 9; house++ {
			other := r
			other.House = house
			if impl.RibOk(other) != (house == r.House) {
				t.Fatalf("%v: %d is not the neighbor", other, house)
			}
		}
		for i, g := range r.All {
			for _, p := range [][]int{{r.House%5 + 1}, {r.House%5 + 1, r.House}, {(r.House+2)%5 + 1, r.House}} {
				bad := deepRib(r)
				bad.All[i] = impl.Got{Route: impl.Route{Range: g.Route.Range, Path: p, Like: g.Route.Like, Marks: g.Route.Marks}, Old: g.Old}
				if impl.RibOk(bad) {
					t.Fatalf("%v has a route of another neighbor", bad)
				}
			}
		}
	}
}

func TestP85PrefixRepeated(t *testing.T) {
	for n, r := range slices.Concat(ribs(), fewRibs()) {
		if len(r.All) == 6 {
			r.All = slices.Delete(slices.Clone(r.All), n%6, n%6+1)
		}
		for i, g := range r.All {
			for at := range len(r.All) + 1 {
				same, other := r, r
				same.All = slices.Insert(slices.Clone(r.All), at, g)
				other.All = slices.Insert(slices.Clone(r.All), at, stale(announced(r.House, n+i, g.Route.Range)))
				if impl.RibOk(same) || impl.RibOk(other) {
					t.Fatalf("%v has %v twice", same, g.Route.Range)
				}
			}
			for j := range i {
				swapped := deepRib(r)
				swapped.All[i], swapped.All[j] = swapped.All[j], swapped.All[i]
				if impl.RibOk(swapped) {
					t.Fatalf("%v is not in order", swapped)
				}
			}
		}
	}
}

func TestP85NotStaleWhileDown(t *testing.T) {
	for _, r := range slices.Concat(ribs(), fewRibs()) {
		down := downRib(r.House, r.All...)
		if impl.RibOk(down) == slices.ContainsFunc(r.All, func(g impl.Got) bool { return !g.Old }) {
			t.Fatalf("%v: %v", down, impl.RibOk(down))
		}
		for i := range r.All {
			one := marked(down, true)
			one.All[i].Old = false
			if impl.RibOk(one) {
				t.Fatalf("%v has a route that is not stale", one)
			}
		}
	}
}

func TestP85InvalidRouteAtEachPlace(t *testing.T) {
	for _, r := range slices.Concat(fewRibs(), ladderRibs(3)[700:]) {
		for i, g := range r.All {
			for _, bad := range notRoutesFrom(r.House) {
				// At its place, if it has a prefix at all, so that the order is not what is wrong.
				if isPrefix(bad.Range) {
					bad.Range = g.Route.Range
				}
				other := r
				other.All = slices.Clone(r.All)
				other.All[i].Route = bad
				if impl.RibOk(other) {
					t.Fatalf("%v is no route of %d", bad, r.House)
				}
			}
		}
	}
}

func TestP85SevenRoutes(t *testing.T) {
	for code := range 64 {
		r := upRib(3)
		for i, x := range ladder() {
			r.All = append(r.All, impl.Got{Route: announced(3, i, x), Old: code>>i&1 == 1})
		}
		for _, up := range []bool{true, false} {
			full := r
			if !up {
				full = downRib(3, marked(r, true).All...)
			}
			if !impl.RibOk(full) {
				t.Fatalf("%v is a table", full)
			}
			for i, x := range prefixes() {
				all := recordOf(full)
				all[x] = stale(announced(3, i, x))
				if got := impl.RibOk(all.in(full)); got != (len(all) == 6) {
					t.Fatalf("%v: %v", all.in(full), got)
				}
			}
		}
	}
}

// refusesRib checks that nothing comes of an invalid table.
func refusesRib(t *testing.T, r impl.Rib, x impl.Route) {
	t.Helper()
	if got, ok := impl.RibTell(r, x); ok || !isZeroRib(got) {
		t.Fatalf("%v tells %v: %v %v", r, x, got, ok)
	}
	if got, ok := impl.RibDrop(r, x.Range); ok || !isZeroRib(got) {
		t.Fatalf("%v withdraws %v: %v %v", r, x.Range, got, ok)
	}
	if got, ok := impl.RibFind(r, x.Range); ok || !isZeroRoute(got) {
		t.Fatalf("%v has for %v: %v %v", r, x.Range, got, ok)
	}
}

func TestP77P79P84InvalidTables(t *testing.T) {
	for _, r := range notRibs() {
		refusesRib(t, r, announced(3, 1, quarter))
		if len(r.All) > 0 {
			refusesRib(t, r, r.All[0].Route)
			refusesRib(t, r, plainRoute(r.All[len(r.All)-1].Route.Range, []int{r.House}))
		}
	}
	for _, r := range fewNotRibs() {
		for i, x := range append(askedPrefixes(), ladder()...) {
			refusesRib(t, r, announced(3, i, x))
		}
		// Neither what is wrong with the table nor the order of arguments counts if both are invalid.
		for _, bad := range fewNotRoutes() {
			refusesRib(t, r, bad)
		}
	}
}

func TestP80P82P83InvalidTables(t *testing.T) {
	for _, r := range append(notRibs(), fewNotRibs()...) {
		for _, c := range changes() {
			if got := c.call(r); !isZeroRib(got) {
				t.Fatalf("%v %s: %v", r, c.name, got)
			}
		}
	}
}

// Ending a restart, taking the session down and withdrawing would each remove what makes some tables invalid.
func TestP79P80P82NoRepair(t *testing.T) {
	x := announced(3, 1, quarter)
	for _, r := range []impl.Rib{
		upRib(3, stale(x), stale(x)), upRib(3, fresh(x), stale(x)), upRib(3, stale(announced(2, 1, quarter))), upRib(3, stale(impl.Route{})), downRib(3, fresh(x)), upRib(3, stale(announced(3, 1, impl.Range{First: 128, Bits: 1})), stale(x)),
	} {
		for _, c := range changes() {
			if got := c.call(r); !isZeroRib(got) {
				t.Errorf("%v %s: %v", r, c.name, got)
			}
		}
		refusesRib(t, r, x)
	}
}

// What is invalid is not merely forbidden: the zero value is returned even if the session is down or the table is full.
func TestP77P88InvalidRoutes(t *testing.T) {
	for _, r := range slices.Concat(fewRibs(), ladderRibs(2)[760:]) {
		for _, bad := range notRoutesFrom(r.House) {
			if got, ok := impl.RibTell(r, bad); ok || !isZeroRib(got) {
				t.Fatalf("%v tells %v: %v %v", r, bad, got, ok)
			}
		}
	}
	for _, bad := range notRoutes() {
		house := 3
		if len(bad.Path) > 0 && within(bad.Path[0], 1, 5) {
			house = bad.Path[0]
		}
		for _, r := range []impl.Rib{upRib(house), downRib(house), upRib(house, stale(announced(house, 1, quarter)))} {
			if got, ok := impl.RibTell(r, bad); ok || !isZeroRib(got) {
				t.Fatalf("%v tells %v: %v %v", r, bad, got, ok)
			}
		}
	}
}

func TestP77P88RoutesOfAnotherSystem(t *testing.T) {
	for _, r := range fewRibs() {
		for _, p := range paths() {
			x := route(64, 2, p, 5, 2)
			got, ok := impl.RibTell(r, x)
			want, wantOk := afterTell(r, x)
			if !sameAnswer(got, ok, want, wantOk) || len(p) > 0 && p[0] != r.House && !isZeroRib(got) {
				t.Fatalf("%v tells %v: %v %v", r, x, got, ok)
			}
		}
	}
}

func TestP79P84InvalidPrefixes(t *testing.T) {
	few := fewRibs()
	for n, bad := range notPrefixes() {
		for i := n % 9; i < len(few); i += 9 {
			if got, ok := impl.RibDrop(few[i], bad); ok || !isZeroRib(got) {
				t.Fatalf("%v withdraws %v: %v %v", few[i], bad, got, ok)
			}
			if got, ok := impl.RibFind(few[i], bad); ok || !isZeroRoute(got) {
				t.Fatalf("%v has for %v: %v %v", few[i], bad, got, ok)
			}
		}
	}
	for _, r := range ribs() {
		for _, g := range r.All {
			x := g.Route.Range
			for _, bad := range []impl.Range{{First: x.First, Bits: -1}, {First: x.First, Bits: 9}, {First: x.First, Bits: x.Bits + 16}, {First: x.First + 256, Bits: x.Bits}, {First: x.First - 256, Bits: x.Bits}, {First: -x.First - 1, Bits: x.Bits}} {
				if got, ok := impl.RibDrop(r, bad); ok || !isZeroRib(got) {
					t.Fatalf("%v withdraws %v: %v %v", r, bad, got, ok)
				}
				if got, ok := impl.RibFind(r, bad); ok || !isZeroRoute(got) {
					t.Fatalf("%v has for %v: %v %v", r, bad, got, ok)
				}
			}
		}
	}
}

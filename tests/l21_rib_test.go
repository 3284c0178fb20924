package tests

import (
	"slices"
	"testing"

	"loop.example/wayboard/impl"
)

// ribTell is RibTell where it must succeed.
func ribTell(t *testing.T, r impl.Rib, all ...impl.Route) impl.Rib {
	t.Helper()
	for _, x := range all {
		got, ok := impl.RibTell(r, x)
		if !ok {
			t.Fatalf("%v tells %v: %v", r, x, got)
		}
		r = got
	}
	return r
}

// ribDrop is RibDrop where it must succeed.
func ribDrop(t *testing.T, r impl.Rib, x impl.Range) impl.Rib {
	t.Helper()
	got, ok := impl.RibDrop(r, x)
	if !ok {
		t.Fatalf("%v withdraws %v: %v", r, x, got)
	}
	return got
}

// findsIn checks what a table has for a prefix.
func findsIn(t *testing.T, r impl.Rib, x impl.Range) {
	t.Helper()
	want, wantOk := foundIn(r, x)
	if got, ok := impl.RibFind(r, x); ok != wantOk || !sameRoute(got, want) {
		t.Fatalf("%v has for %v: %v %v", r, x, got, ok)
	}
}

func TestRibLimits(t *testing.T) {
	if impl.RibMax != 6 {
		t.Error(impl.RibMax)
	}
	for _, r := range slices.Concat(ribs(), fewRibs(), ladderRibs(1), ladderRibs(5)) {
		if !isRib(r) || !impl.RibOk(r) {
			t.Fatalf("%v is a table", r)
		}
	}
	for house := 1; house <= 5; house++ {
		if !impl.RibOk(impl.Rib{House: house}) || !impl.RibOk(impl.Rib{House: house, Up: true, All: []impl.Got{}}) {
			t.Error("the empty table of", house)
		}
		// Each path and each prefix is fine in a table of the neighbor that announced it.
		for i, p := range waysFrom(house) {
			x := plainRoute(prefixes()[i*7], p)
			if !impl.RibOk(upRib(house, fresh(x))) || !impl.RibOk(upRib(house, stale(x))) || !impl.RibOk(downRib(house, stale(x))) {
				t.Errorf("%v of %d", x, house)
			}
		}
	}
}

func TestP77P88TellSomeRoutes(t *testing.T) {
	q, half, all := route(64, 2, []int{2, 3}, 5, 7), route(128, 1, []int{2}, 0), route(0, 0, []int{2, 1}, 9)
	better := route(64, 2, []int{2}, 9)
	for _, c := range []struct {
		r    impl.Rib
		x    impl.Route
		want impl.Rib
	}{
		{upRib(2), q, upRib(2, fresh(q))},
		{impl.Rib{House: 2, Up: true, All: []impl.Got{}}, half, upRib(2, fresh(half))},
		{upRib(2, fresh(q)), all, upRib(2, fresh(all), fresh(q))},
		{upRib(2, fresh(all), fresh(half)), q, upRib(2, fresh(all), fresh(q), fresh(half))},
		{upRib(2, fresh(all), fresh(q)), half, upRib(2, fresh(all), fresh(q), fresh(half))},
		{upRib(2, stale(all), stale(half)), q, upRib(2, stale(all), fresh(q), stale(half))},
		{upRib(2, fresh(q)), better, upRib(2, fresh(better))},
		{upRib(2, stale(q)), better, upRib(2, fresh(better))},
		{upRib(2, stale(q)), q, upRib(2, fresh(q))},
		{upRib(2, fresh(better)), q, upRib(2, fresh(q))},
		{upRib(2, stale(all), stale(q), stale(half)), q, upRib(2, stale(all), fresh(q), stale(half))},
	} {
		if got, ok := impl.RibTell(c.r, c.x); !ok || !sameRib(got, c.want) {
			t.Errorf("%v tells %v: %v %v", c.r, c.x, got, ok)
		}
	}
	for _, r := range []impl.Rib{downRib(2), downRib(2, stale(q)), downRib(2, stale(all), stale(half))} {
		if got, ok := impl.RibTell(r, q); ok || !sameRib(got, r) {
			t.Errorf("%v tells %v: %v %v", r, q, got, ok)
		}
	}
}

// tells checks what comes of announcing a route: that it is found, not stale, and all else is as it was.
func tells(t *testing.T, r impl.Rib, x impl.Route) {
	t.Helper()
	want, wantOk := afterTell(r, x)
	got, ok := impl.RibTell(r, x)
	if !sameAnswer(got, ok, want, wantOk) {
		t.Fatalf("%v tells %v: %v %v", r, x, got, ok)
	}
	if !impl.RibOk(got) || got.House != r.House || got.Up != r.Up {
		t.Fatalf("%v tells %v: %v", r, x, got)
	}
	there := recordOf(r)
	delete(there, x.Range)
	if wantOk == (!r.Up || len(there) == 6) {
		t.Fatalf("%v tells %v: %v", r, x, ok)
	}
	if !ok {
		return
	}
	after := recordOf(got)
	if now, found := impl.RibFind(got, x.Range); !found || !sameRoute(now, x) || after[x.Range].Old {
		t.Fatalf("%v tells %v: has %v", r, x, now)
	}
	delete(after, x.Range)
	if !sameRib(after.in(r), there.in(r)) {
		t.Fatalf("%v tells %v: %v", r, x, got)
	}
}

func TestP77P88Tell(t *testing.T) {
	for _, r := range slices.Concat(ribs(), fewRibs()) {
		for _, x := range nearRoutes(r) {
			tells(t, r, x)
		}
	}
}

func TestP77P88TellForEachPrefix(t *testing.T) {
	for n, r := range fewRibs() {
		for i, x := range prefixes() {
			tells(t, r, announced(r.House, n+i, x))
		}
	}
}

func TestP77TellEachRoute(t *testing.T) {
	full := ladderRib(3, 607)
	for _, x := range slices.Concat(bareRoutes(), markedRoutes(), closeRoutes(), variedRoutes(), drawnRoutes(&draw{at: 77}, 200)) {
		for _, r := range []impl.Rib{upRib(x.Path[0]), upRib(x.Path[0], stale(announced(x.Path[0], 1, quarter))), downRib(x.Path[0])} {
			tells(t, r, x)
		}
		if x.Path[0] == 3 {
			tells(t, full, x)
		}
	}
}

// A table is the same whatever the order in which its routes were announced.
func TestP77P78TellAllInAnyOrder(t *testing.T) {
	for n := 1; n <= 5; n++ {
		for _, order := range ordersOf(n) {
			r, want := upRib(4), record{}
			for _, i := range order {
				x := announced(4, i, ladder()[i])
				r, want[x.Range] = ribTell(t, r, x), fresh(x)
			}
			if !sameRib(r, want.in(upRib(4))) {
				t.Fatalf("in order %v: %v", order, r)
			}
		}
	}
	for _, r := range ribs() {
		turned := upRib(r.House)
		for _, g := range slices.Backward(r.All) {
			turned = ribTell(t, turned, g.Route)
		}
		if !sameRib(turned, upRib(r.House, marked(r, false).All...)) {
			t.Fatalf("%v, from the last one: %v", r, turned)
		}
	}
}

func TestP78TellTwoRoutes(t *testing.T) {
	for n, r := range slices.Concat(ribs(), fewRibs()) {
		if !r.Up {
			continue
		}
		some := nearRoutes(r)
		for i := n % 3; i < len(some); i += 3 {
			x, y := some[i], some[(i*5+n)%len(some)]
			all := recordOf(r)
			all[x.Range], all[y.Range] = fresh(x), fresh(y)
			if x.Range == y.Range || len(all) > 6 {
				continue
			}
			a, b := ribTell(t, r, x, y), ribTell(t, r, y, x)
			if !sameRib(a, b) || !sameRib(a, all.in(r)) {
				t.Fatalf("%v tells %v and %v: %v %v", r, x, y, a, b)
			}
		}
	}
}

// With space for one route only, the first one of two is stored, and the second one is refused.
func TestP78P88SpaceForOne(t *testing.T) {
	for _, x := range ladder() {
		five := ribDrop(t, ladderRib(3, 728), x)
		for i, a := range askedPrefixes() {
			for j, b := range askedPrefixes() {
				there := recordOf(five)
				if there[a].Route.Path != nil || there[b].Route.Path != nil || a == b {
					continue
				}
				first, second := announced(3, i, a), announced(3, j, b)
				full := ribTell(t, five, first)
				there[a] = fresh(first)
				if got, ok := impl.RibTell(full, second); ok || !sameRib(got, there.in(five)) {
					t.Fatalf("%v tells %v and %v: %v %v", five, first, second, got, ok)
				}
			}
		}
	}
}

func TestP78TellTwiceForOnePrefix(t *testing.T) {
	for n, r := range slices.Concat(ribs(), fewRibs()) {
		if !r.Up {
			continue
		}
		for i, x := range nearRoutes(r) {
			y := announced(r.House, n+i+1, x.Range)
			if _, found := recordOf(r)[x.Range]; !found && len(r.All) == 6 {
				continue
			}
			if both := ribTell(t, r, x, y); !sameRib(both, ribTell(t, r, y)) {
				t.Fatalf("%v tells %v and then %v: %v", r, x, y, both)
			}
			if twice := ribTell(t, r, x, x); !sameRib(twice, ribTell(t, r, x)) {
				t.Fatalf("%v tells %v twice: %v", r, x, twice)
			}
		}
	}
}

func TestP79DropSomeRoutes(t *testing.T) {
	q, half, all := route(64, 2, []int{2, 3}, 5, 7), route(128, 1, []int{2}, 0), route(0, 0, []int{2, 1}, 9)
	three := upRib(2, fresh(all), stale(q), fresh(half))
	for _, c := range []struct {
		r    impl.Rib
		x    impl.Range
		want impl.Rib
		ok   bool
	}{
		{three, all.Range, upRib(2, stale(q), fresh(half)), true},
		{three, q.Range, upRib(2, fresh(all), fresh(half)), true},
		{three, half.Range, upRib(2, fresh(all), stale(q)), true},
		{upRib(2, fresh(q)), q.Range, upRib(2), true},
		{upRib(2, stale(q)), q.Range, upRib(2), true},
		{three, impl.Range{First: 0, Bits: 1}, three, false},
		{three, impl.Range{First: 96, Bits: 3}, three, false},
		{three, impl.Range{First: 64, Bits: 8}, three, false},
		{three, impl.Range{First: 255, Bits: 8}, three, false},
		{upRib(2, fresh(q)), everything, upRib(2, fresh(q)), false},
		{upRib(2), q.Range, upRib(2), false},
		{downRib(2), q.Range, downRib(2), false},
		{downRib(2, stale(q)), q.Range, downRib(2, stale(q)), false},
		{downRib(2, stale(q)), everything, downRib(2, stale(q)), false},
	} {
		if got, ok := impl.RibDrop(c.r, c.x); !sameAnswer(got, ok, c.want, c.ok) {
			t.Errorf("%v withdraws %v: %v %v", c.r, c.x, got, ok)
		}
	}
}

// withdraws checks what comes of withdrawing a prefix: that it is not found, and all else is as it was.
func withdraws(t *testing.T, r impl.Rib, x impl.Range) {
	t.Helper()
	want, wantOk := afterDrop(r, x)
	got, ok := impl.RibDrop(r, x)
	if !sameAnswer(got, ok, want, wantOk) {
		t.Fatalf("%v withdraws %v: %v %v", r, x, got, ok)
	}
	_, found := impl.RibFind(r, x)
	if ok != (r.Up && found) || got.House != r.House || got.Up != r.Up || !impl.RibOk(got) {
		t.Fatalf("%v withdraws %v: %v %v", r, x, got, ok)
	}
	if ok {
		findsIn(t, got, x)
		if again, twice := impl.RibDrop(got, x); twice || !sameRib(again, got) {
			t.Fatalf("%v withdraws %v twice: %v", r, x, again)
		}
	}
}

func TestP79Drop(t *testing.T) {
	for _, r := range slices.Concat(ribs(), fewRibs()) {
		for _, x := range nearPrefixes(r) {
			withdraws(t, r, x)
		}
	}
}

func TestP79DropForEachPrefix(t *testing.T) {
	for _, r := range fewRibs() {
		for _, x := range prefixes() {
			withdraws(t, r, x)
		}
	}
}

func TestP79DropAllInAnyOrder(t *testing.T) {
	for _, order := range ordersOf(5) {
		r, all := upRib(4), record{}
		for i := 1; i <= 5; i++ {
			x := announced(4, i, ladder()[i])
			all[x.Range] = impl.Got{Route: x, Old: i%2 == 0}
		}
		r = all.in(r)
		for _, i := range order {
			r = ribDrop(t, r, ladder()[i])
			delete(all, ladder()[i])
			if !sameRib(r, all.in(upRib(4))) {
				t.Fatalf("in order %v: %v", order, r)
			}
		}
	}
}

func TestP84FindSomeRoutes(t *testing.T) {
	q, half, all := route(64, 2, []int{2, 3}, 5, 7), route(128, 1, []int{2}, 0), route(0, 0, []int{2, 1}, 9)
	for _, r := range []impl.Rib{upRib(2, fresh(all), stale(q), fresh(half)), upRib(2, stale(all), fresh(q), stale(half)), downRib(2, stale(all), stale(q), stale(half))} {
		for _, want := range []impl.Route{q, half, all} {
			if got, ok := impl.RibFind(r, want.Range); !ok || !sameRoute(got, want) {
				t.Errorf("%v has for %v: %v %v", r, want.Range, got, ok)
			}
		}
		for _, x := range []impl.Range{{First: 0, Bits: 1}, {First: 64, Bits: 3}, {First: 96, Bits: 3}, {First: 64, Bits: 8}, {First: 0, Bits: 8}, {First: 255, Bits: 8}, {First: 192, Bits: 2}} {
			if got, ok := impl.RibFind(r, x); ok || !isZeroRoute(got) {
				t.Errorf("%v has for %v: %v %v", r, x, got, ok)
			}
		}
	}
	for _, r := range []impl.Rib{upRib(2), downRib(2), {House: 2, Up: true, All: []impl.Got{}}} {
		if got, ok := impl.RibFind(r, everything); ok || !isZeroRoute(got) {
			t.Errorf("%v has: %v %v", r, got, ok)
		}
	}
}

func TestP84FindForExactlyThisPrefix(t *testing.T) {
	for _, r := range ribs() {
		for _, x := range nearPrefixes(r) {
			findsIn(t, r, x)
		}
		for _, g := range r.All {
			if got, ok := impl.RibFind(r, g.Route.Range); !ok || !sameRoute(got, g.Route) {
				t.Fatalf("%v has for %v: %v %v", r, g.Route.Range, got, ok)
			}
		}
	}
	for _, r := range fewRibs() {
		for _, x := range prefixes() {
			findsIn(t, r, x)
		}
	}
}

// Whether a route is stale does not matter for what is found.
func TestP84StaleRoutesAreFound(t *testing.T) {
	for _, r := range fewRibs() {
		for _, other := range []impl.Rib{marked(r, true), upRib(r.House, marked(r, false).All...), downRib(r.House, marked(r, true).All...)} {
			for _, x := range nearPrefixes(r) {
				want, wantOk := foundIn(r, x)
				if got, ok := impl.RibFind(other, x); ok != wantOk || !sameRoute(got, want) {
					t.Fatalf("%v has for %v: %v %v", other, x, got, ok)
				}
			}
		}
	}
}

func TestP87TellAndDropANewPrefix(t *testing.T) {
	for _, r := range slices.Concat(ribs(), fewRibs()) {
		for _, x := range nearRoutes(r) {
			if _, found := recordOf(r)[x.Range]; found || !r.Up || len(r.All) == 6 {
				continue
			}
			if got := ribDrop(t, ribTell(t, r, x), x.Range); !sameRib(got, r) {
				t.Fatalf("%v tells and withdraws %v: %v", r, x, got)
			}
		}
	}
	for _, r := range []impl.Rib{upRib(3), ladderRib(3, 242), ladderRib(3, 1), ladderRib(3, 160)} {
		for i, x := range prefixes() {
			if _, found := recordOf(r)[x]; found {
				continue
			}
			if got := ribDrop(t, ribTell(t, r, announced(3, i, x)), x); !sameRib(got, r) {
				t.Fatalf("%v tells and withdraws %v: %v", r, x, got)
			}
		}
	}
}

func TestP88FullTables(t *testing.T) {
	for code := range 64 {
		r := upRib(3)
		for i, x := range ladder() {
			r.All = append(r.All, impl.Got{Route: announced(3, i, x), Old: code>>i&1 == 1})
		}
		for i, x := range prefixes() {
			got, ok := impl.RibTell(r, announced(3, i, x))
			if slices.Contains(ladder(), x) != ok || len(got.All) != 6 || !ok && !sameRib(got, r) {
				t.Fatalf("%v tells a route to %v: %v %v", r, x, got, ok)
			}
		}
		// There is space again for any prefix as soon as one is withdrawn.
		for _, gone := range ladder() {
			five := ribDrop(t, r, gone)
			for _, x := range []impl.Range{gone, quarterOf(gone), {First: 32, Bits: 3}, {First: 254, Bits: 7}, {First: 0, Bits: 8}} {
				tells(t, five, announced(3, code, x))
			}
		}
	}
}

// quarterOf is the lowest quarter of a prefix, or the prefix if it is too small.
func quarterOf(r impl.Range) impl.Range {
	return impl.Range{First: r.First, Bits: min(r.Bits+2, 8)}
}

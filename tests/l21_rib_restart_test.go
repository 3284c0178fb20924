package tests

import (
	"slices"
	"testing"

	"loop.example/wayboard/impl"
)

func TestP80P82P83SomeTables(t *testing.T) {
	q, half, all := route(64, 2, []int{2, 3}, 5, 7), route(128, 1, []int{2}, 0), route(0, 0, []int{2, 1}, 9)
	for _, c := range []struct{ r, gently, down, up, end impl.Rib }{
		{upRib(2), downRib(2), downRib(2), upRib(2), upRib(2)},
		{downRib(2), downRib(2), downRib(2), upRib(2), downRib(2)},
		{upRib(2, fresh(q)), downRib(2, stale(q)), downRib(2), upRib(2, fresh(q)), upRib(2, fresh(q))},
		{upRib(2, stale(q)), downRib(2, stale(q)), downRib(2), upRib(2, stale(q)), upRib(2)},
		{downRib(2, stale(q)), downRib(2, stale(q)), downRib(2), upRib(2, stale(q)), downRib(2)},
		{upRib(2, stale(all), fresh(q), stale(half)), downRib(2, stale(all), stale(q), stale(half)), downRib(2), upRib(2, stale(all), fresh(q), stale(half)), upRib(2, fresh(q))},
		{upRib(2, fresh(all), stale(q), fresh(half)), downRib(2, stale(all), stale(q), stale(half)), downRib(2), upRib(2, fresh(all), stale(q), fresh(half)), upRib(2, fresh(all), fresh(half))},
		{downRib(2, stale(all), stale(q), stale(half)), downRib(2, stale(all), stale(q), stale(half)), downRib(2), upRib(2, stale(all), stale(q), stale(half)), downRib(2)},
	} {
		if got := impl.RibDown(c.r, true); !sameRib(got, c.gently) {
			t.Errorf("%v goes down gently: %v", c.r, got)
		}
		if got := impl.RibDown(c.r, false); !sameRib(got, c.down) {
			t.Errorf("%v goes down: %v", c.r, got)
		}
		if got := impl.RibUp(c.r); !sameRib(got, c.up) {
			t.Errorf("%v goes up: %v", c.r, got)
		}
		if got := impl.RibEnd(c.r); !sameRib(got, c.end) {
			t.Errorf("%v ends: %v", c.r, got)
		}
	}
}

func TestP80Down(t *testing.T) {
	for _, r := range slices.Concat(ribs(), fewRibs()) {
		gone := impl.RibDown(r, false)
		if gone.Up || gone.House != r.House || len(gone.All) != 0 || !impl.RibOk(gone) {
			t.Fatalf("%v goes down: %v", r, gone)
		}
		gentle := impl.RibDown(r, true)
		if gentle.Up || gentle.House != r.House || len(gentle.All) != len(r.All) || !impl.RibOk(gentle) {
			t.Fatalf("%v goes down gently: %v", r, gentle)
		}
		for i, g := range r.All {
			if got, ok := impl.RibFind(gentle, g.Route.Range); !ok || !sameRoute(got, g.Route) || !sameGot(gentle.All[i], stale(g.Route)) {
				t.Fatalf("%v goes down gently: %v", r, gentle)
			}
			if got, ok := impl.RibFind(gone, g.Route.Range); ok || !isZeroRoute(got) {
				t.Fatalf("%v goes down: has %v", r, got)
			}
		}
	}
}

// Each change alone, twice, and one after the other in every order, is as the document says.
func TestP80P82P83ChangesInEveryOrder(t *testing.T) {
	for n, r := range slices.Concat(ribs(), fewRibs()) {
		longest := 3
		if n%29 == 0 {
			longest = 5
		}
		inEveryOrder(t, r, deepRib(r), longest, "")
	}
}

func inEveryOrder(t *testing.T, r, want impl.Rib, longest int, names string) {
	t.Helper()
	if !sameRib(r, want) || !impl.RibOk(r) {
		t.Fatalf("%s: %v, not %v", names, r, want)
	}
	if longest == 0 {
		return
	}
	for _, c := range changes() {
		inEveryOrder(t, c.call(r), c.want(want), longest-1, names+" "+c.name)
	}
}

func TestP80P82P83TwiceIsOnce(t *testing.T) {
	for _, r := range slices.Concat(ribs(), fewRibs()) {
		for _, c := range changes() {
			once := c.call(r)
			if !sameRib(once, c.want(r)) {
				t.Fatalf("%v %s: %v", r, c.name, once)
			}
			if twice := c.call(once); !sameRib(twice, once) {
				t.Fatalf("%v %s twice: %v, not %v", r, c.name, twice, once)
			}
		}
	}
}

// restarted is a table after a graceful end of the session and its start.
func restarted(r impl.Rib) impl.Rib {
	return impl.RibUp(impl.RibDown(r, true))
}

func TestP81RestartWithAllRoutes(t *testing.T) {
	for _, r := range slices.Concat(ribs(), fewRibs()) {
		want := upRib(r.House, marked(r, false).All...)
		now, last := restarted(r), restarted(r)
		for _, g := range r.All {
			now = ribTell(t, now, g.Route)
		}
		for _, g := range slices.Backward(r.All) {
			last = ribTell(t, last, g.Route)
		}
		if !sameRib(now, want) || !sameRib(last, want) {
			t.Fatalf("%v restarts: %v %v", r, now, last)
		}
		if end := impl.RibEnd(now); !sameRib(end, want) {
			t.Fatalf("%v restarts and ends: %v", r, end)
		}
		if !slices.ContainsFunc(r.All, func(g impl.Got) bool { return g.Old }) && r.Up && !sameRib(impl.RibEnd(now), r) {
			t.Fatalf("%v is not as before: %v", r, impl.RibEnd(now))
		}
	}
}

// At each step of a restart, each route that was there is found, be it stale or told again.
func TestP81NoRouteIsMissedMeanwhile(t *testing.T) {
	for _, r := range slices.Concat(ribs(), fewRibs()) {
		steps := []impl.Rib{impl.RibDown(r, true), restarted(r)}
		for i := range r.All {
			steps = append(steps, ribTell(t, steps[len(steps)-1], r.All[(i*5+1)%len(r.All)].Route))
		}
		for _, now := range steps {
			for _, g := range r.All {
				if got, ok := impl.RibFind(now, g.Route.Range); !ok || !sameRoute(got, g.Route) {
					t.Fatalf("%v restarts: %v has for %v: %v %v", r, now, g.Route.Range, got, ok)
				}
			}
		}
	}
}

func TestP81P82RestartWithSomeRoutes(t *testing.T) {
	for n, r := range slices.Concat(ribs(), fewRibs()) {
		for some := n % 5; some < 1<<len(r.All); some += 5 {
			now, want := restarted(r), upRib(r.House)
			for i, g := range r.All {
				if some>>i&1 == 1 {
					now = ribTell(t, now, g.Route)
					want.All = append(want.All, fresh(g.Route))
				}
			}
			if end := impl.RibEnd(now); !sameRib(end, want) {
				t.Fatalf("%v restarts with %b: %v", r, some, end)
			}
		}
	}
}

// After a restart the neighbor may tell other routes than before: to other prefixes, or to the same ones in other ways.
func TestP81P82RestartWithOtherRoutes(t *testing.T) {
	for n, r := range slices.Concat(ribs(), fewRibs()) {
		now, want := restarted(r), record{}
		for i, x := range nearPrefixes(r) {
			if (i+n)%4 > 0 {
				continue
			}
			other := announced(r.House, i+n, x)
			got, ok := impl.RibTell(now, other)
			if ok {
				want[x] = fresh(other)
			}
			now = got
		}
		if end := impl.RibEnd(now); !sameRib(end, want.in(upRib(r.House))) {
			t.Fatalf("%v restarts: %v, not %v", r, end, want)
		}
	}
}

func TestP82End(t *testing.T) {
	for _, r := range slices.Concat(ribs(), fewRibs()) {
		end := impl.RibEnd(r)
		if !sameRib(end, afterEnd(r)) || end.Up != r.Up || end.House != r.House || !impl.RibOk(end) {
			t.Fatalf("%v ends: %v", r, end)
		}
		for _, g := range r.All {
			if got, ok := impl.RibFind(end, g.Route.Range); ok == g.Old || ok && !sameRoute(got, g.Route) {
				t.Fatalf("%v ends: has for %v: %v %v", r, g.Route.Range, got, ok)
			}
		}
		if twice := impl.RibEnd(end); !sameRib(twice, end) {
			t.Fatalf("%v ends twice: %v", r, twice)
		}
		for _, now := range []impl.Rib{impl.RibEnd(restarted(r)), impl.RibUp(impl.RibEnd(impl.RibDown(r, true))), restarted(restarted(r))} {
			if none := impl.RibEnd(now); none.House != r.House || !none.Up || len(none.All) != 0 {
				t.Fatalf("%v restarts without announcements: %v", r, none)
			}
		}
	}
}

func TestP83Up(t *testing.T) {
	for _, r := range slices.Concat(ribs(), fewRibs()) {
		up := impl.RibUp(r)
		if !up.Up || up.House != r.House || !slices.EqualFunc(up.All, r.All, sameGot) {
			t.Fatalf("%v goes up: %v", r, up)
		}
		for i, x := range nearPrefixes(r) {
			y := announced(r.House, i, x)
			tells(t, up, y)
			_, found := recordOf(r)[x]
			if _, ok := impl.RibTell(up, y); ok != (found || len(r.All) < 6) {
				t.Fatalf("%v goes up and tells %v: %v", r, y, ok)
			}
		}
	}
}

func TestP86NothingIsToldWhileDown(t *testing.T) {
	for _, r := range slices.Concat(ribs(), fewRibs()) {
		for _, down := range []impl.Rib{impl.RibDown(r, true), impl.RibDown(r, false), impl.RibEnd(impl.RibDown(r, true))} {
			for _, x := range nearRoutes(r) {
				if got, ok := impl.RibTell(down, x); ok || !sameRib(got, down) {
					t.Fatalf("%v tells %v: %v %v", down, x, got, ok)
				}
			}
			for _, x := range nearPrefixes(r) {
				if got, ok := impl.RibDrop(down, x); ok || !sameRib(got, down) {
					t.Fatalf("%v withdraws %v: %v %v", down, x, got, ok)
				}
			}
		}
	}
}

// Long lives of tables, in which anything may happen after anything else.
func TestP77P79P80P82P83DrawnLives(t *testing.T) {
	d := &draw{at: 86}
	for life := range 60 {
		house := 1 + life%5
		r, want := impl.Rib{House: house}, impl.Rib{House: house}
		known := slices.Concat(ladder(), askedPrefixes()[:5+life%8])
		for step := range 150 {
			x := known[d.below(len(known))]
			ok, wantOk := true, true
			switch what := d.below(12); {
			case what < 5:
				y := announced(house, life+step, x)
				r, ok = impl.RibTell(r, y)
				want, wantOk = afterTell(want, y)
			case what < 8:
				r, ok = impl.RibDrop(r, x)
				want, wantOk = afterDrop(want, x)
			default:
				// A session that is mostly up, as little can happen while it is down.
				c := changes()[[]int{0, 2, 2, 3}[what-8]]
				if step%40 == 39 {
					c = changes()[1]
				}
				r, want = c.call(r), c.want(want)
			}
			if !sameAnswer(r, ok, want, wantOk) {
				t.Fatalf("life %d, step %d: %v %v, not %v %v", life, step, r, ok, want, wantOk)
			}
			findsIn(t, r, x)
		}
	}
}

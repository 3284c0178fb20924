package tests

import (
	"slices"
	"testing"

	"loop.example/wayboard/impl"
)

// roomyRib has room behind its routes and behind the slices of each, as a careless append or insertion would use.
func roomyRib(r impl.Rib) impl.Rib {
	all := make([]impl.Got, 0, len(r.All)+2)
	for _, g := range r.All {
		all = append(all, impl.Got{Route: roomyRoute(g.Route), Old: g.Old})
	}
	spare := stale(roomyRoute(route(255, 8, []int{2}, 1, 3)))
	r.All = append(all, spare, fresh(roomyRoute(spare.Route)))[:len(r.All)]
	return r
}

// crampedRib has no room behind any slice.
func crampedRib(r impl.Rib) impl.Rib {
	r = deepRib(r)
	r.All = slices.Clip(r.All)
	for i, g := range r.All {
		r.All[i].Route.Path, r.All[i].Route.Marks = slices.Clip(g.Route.Path), slices.Clip(g.Route.Marks)
	}
	return r
}

// sharedRibs have the slices of all routes in one array, or one route's slices in several, which must not become one for those of the result.
func sharedRibs() []impl.Rib {
	l := []int{3, 4, 5, 1, 2}
	m := []int{1, 2, 3, 4, 5, 6, 7, 8, 9}
	r := upRib(3)
	for i, x := range ladder() {
		r.All = append(r.All, impl.Got{Route: impl.Route{Range: x, Path: l[:1+i%5], Like: i, Marks: m[i : 2*i-i/5]}, Old: i%2 == 1})
	}
	one := upRib(3)
	for i, x := range ladder() {
		// A path and communities in one array, as far as both are valid.
		one.All = append(one.All, impl.Got{Route: impl.Route{Range: x, Path: l[:3], Like: 5, Marks: l[:2]}, Old: i%3 == 1})
	}
	return []impl.Rib{r, marked(r, true), downRib(3, marked(r, true).All...), one, marked(one, false), upRib(3, r.All[:5]...), upRib(3, one.All[1:4]...)}
}

// memoryOfRib is what a table holds, to the end of the capacity of each slice.
func memoryOfRib(r impl.Rib) ([]impl.Got, [][]int) {
	var held [][]int
	all := r.All[:cap(r.All)]
	for _, g := range all {
		held = append(held, memoryOf(g.Route))
	}
	return deepRib(impl.Rib{All: all}).All, held
}

func ribStaysAs(r impl.Rib, all []impl.Got, held [][]int) bool {
	now, holds := memoryOfRib(r)
	return slices.EqualFunc(now, all, sameGot) && slices.EqualFunc(holds, held, slices.Equal)
}

func scribbleRoute(x impl.Route) {
	scribblePath(x.Path)
	scribblePath(x.Marks)
}

// scribbleRib writes over all that a table holds, to the end of the capacity of each slice.
func scribbleRib(r impl.Rib) {
	all := r.All[:cap(r.All)]
	for _, g := range all {
		scribbleRoute(g.Route)
	}
	for i := range all {
		all[i] = impl.Got{Route: impl.Route{Range: impl.Range{First: -7, Bits: -7}, Like: -7}, Old: i%2 == 0}
	}
}

// ribCall is a call that returns a table, for a route that it may announce or withdraw.
type ribCall func(impl.Rib, impl.Route) impl.Rib

func ribCalls() []ribCall {
	all := []ribCall{
		func(r impl.Rib, x impl.Route) impl.Rib { got, _ := impl.RibTell(r, x); return got },
		func(r impl.Rib, x impl.Route) impl.Rib { got, _ := impl.RibDrop(r, x.Range); return got },
	}
	for _, c := range changes() {
		all = append(all, func(r impl.Rib, _ impl.Route) impl.Rib { return c.call(r) })
	}
	return all
}

// givenRibs are tables with room, without room, and in shared memory, valid and invalid.
func givenRibs() []func() impl.Rib {
	var all []func() impl.Rib
	for _, r := range slices.Concat(fewRibs(), fewNotRibs()) {
		all = append(all, func() impl.Rib { return roomyRib(r) }, func() impl.Rib { return crampedRib(r) })
	}
	for i := range sharedRibs() {
		all = append(all, func() impl.Rib { return sharedRibs()[i] })
	}
	return all
}

// givenRoutes are announced with each outcome: new, instead of what is there, one of the table itself, and refused.
func givenRoutes(r impl.Rib) []impl.Route {
	all := []impl.Route{roomyRoute(announced(3, 5, quarter)), roomyRoute(announced(3, 6, impl.Range{First: 254, Bits: 7})), roomyRoute(announced(2, 7, everything)), roomyRoute(route(64, 2, []int{3, 3}, 5, 2))}
	for _, g := range r.All[:min(len(r.All), 6)] {
		all = append(all, g.Route, roomyRoute(announced(3, 8, g.Route.Range)))
	}
	return all
}

func TestP77P79P80P82P83ResultsAreNewMemory(t *testing.T) {
	for _, give := range givenRibs() {
		for i, call := range ribCalls() {
			for n := range givenRoutes(give()) {
				r := give()
				x := givenRoutes(r)[n]
				all, held := memoryOfRib(r)
				kept := memoryOf(x)
				first, second := call(r, x), call(r, x)
				want := deepRib(second)
				if !ribStaysAs(r, all, held) || !slices.Equal(memoryOf(x), kept) {
					t.Fatalf("call %d changes %v or %v", i, r, x)
				}
				if !sameRib(first, want) {
					t.Fatalf("call %d for %v: %v and then %v", i, r, first, want)
				}
				scribbleRib(first)
				if !ribStaysAs(r, all, held) || !slices.Equal(memoryOf(x), kept) || !sameRib(second, want) {
					t.Fatalf("call %d for %v: the result shares memory", i, r)
				}
				if again := call(r, x); !sameRib(again, want) {
					t.Fatalf("call %d for %v: a result is kept: %v", i, r, again)
				}
				scribbleRib(r)
				scribbleRoute(x)
				if !sameRib(second, want) {
					t.Fatalf("call %d for %v: the argument shares memory", i, want)
				}
			}
		}
	}
}

// No two slices of one result share memory, from the first one to the last, nor the other way round.
func TestP77P79P80P82P83SlicesOfAResult(t *testing.T) {
	for _, give := range givenRibs() {
		for i, call := range ribCalls() {
			for _, x := range givenRoutes(give()) {
				first, second := call(give(), x), call(give(), x)
				want := deepRib(first)
				for n, g := range first.All {
					scribblePath(g.Route.Path)
					if !slices.Equal(g.Route.Marks, want.All[n].Route.Marks) {
						t.Fatalf("call %d for %v: a path shares memory with communities", i, want)
					}
					scribblePath(g.Route.Marks)
					if !slices.EqualFunc(first.All[n+1:], want.All[n+1:], sameGot) {
						t.Fatalf("call %d for %v: two routes share memory", i, want)
					}
				}
				for n, g := range slices.Backward(second.All) {
					scribblePath(g.Route.Marks)
					if !slices.Equal(g.Route.Path, want.All[n].Route.Path) {
						t.Fatalf("call %d for %v: communities share memory with a path", i, want)
					}
					scribblePath(g.Route.Path)
					if !slices.EqualFunc(second.All[:n], want.All[:n], sameGot) {
						t.Fatalf("call %d for %v: two routes share memory", i, want)
					}
				}
			}
		}
	}
}

func TestP84FindIsNewMemory(t *testing.T) {
	for _, give := range givenRibs() {
		for n := range givenRoutes(give()) {
			r := give()
			x := givenRoutes(r)[n].Range
			all, held := memoryOfRib(r)
			first, ok := impl.RibFind(r, x)
			second, _ := impl.RibFind(r, x)
			want := deepRoute(second)
			if !ribStaysAs(r, all, held) || !sameRoute(first, want) || !ok && !isZeroRoute(first) {
				t.Fatalf("%v has for %v: %v %v", r, x, first, second)
			}
			scribblePath(first.Path)
			if !slices.Equal(first.Marks, want.Marks) {
				t.Fatalf("%v has for %v: the path and the marks share memory", r, x)
			}
			scribblePath(first.Marks)
			if !ribStaysAs(r, all, held) || !sameRoute(second, want) {
				t.Fatalf("%v has for %v: the result shares memory", r, x)
			}
			if again, _ := impl.RibFind(r, x); !sameRoute(again, want) {
				t.Fatalf("%v has for %v: a result is kept: %v", r, x, again)
			}
			scribbleRib(r)
			if !sameRoute(second, want) {
				t.Fatalf("has for %v: the argument shares memory", x)
			}
		}
	}
}

func TestP85OkChangesNothing(t *testing.T) {
	for _, give := range givenRibs() {
		r := give()
		all, held := memoryOfRib(r)
		if impl.RibOk(r) != isRib(r) || !ribStaysAs(r, all, held) {
			t.Fatalf("%v is changed", r)
		}
	}
}

// What is told of a table does not depend on the room behind it, nor on whether a slice is nil or empty.
func TestP77P79P80P82P83P84RoomDoesNotMatter(t *testing.T) {
	for _, r := range fewRibs() {
		empty := deepRib(r)
		empty.All = append([]impl.Got{}, empty.All...)
		for i, g := range empty.All {
			empty.All[i].Route.Marks = append([]int{}, g.Route.Marks...)
		}
		for _, x := range nearRoutes(r)[:8] {
			for i, call := range ribCalls() {
				want := call(crampedRib(r), x)
				for _, other := range []impl.Rib{roomyRib(r), empty} {
					if got := call(other, roomyRoute(x)); !sameRib(got, want) {
						t.Fatalf("call %d for %v and %v: %v, not %v", i, r, x, got, want)
					}
				}
			}
			want, wantOk := foundIn(r, x.Range)
			for _, other := range []impl.Rib{roomyRib(r), crampedRib(r), empty} {
				if got, ok := impl.RibFind(other, x.Range); ok != wantOk || !sameRoute(got, want) {
					t.Fatalf("%v has for %v: %v %v", r, x.Range, got, ok)
				}
			}
		}
	}
	x := impl.Route{Range: quarter, Path: []int{3}, Marks: []int{}}
	if got, ok := impl.RibTell(impl.Rib{House: 3, Up: true, All: []impl.Got{}}, x); !ok || !sameRib(got, upRib(3, fresh(x))) {
		t.Error("empty slices:", got, ok)
	}
	if got, ok := impl.RibDrop(impl.Rib{House: 3, Up: true, All: []impl.Got{stale(x)}}, quarter); !ok || !sameRib(got, upRib(3)) {
		t.Error("empty slices:", got, ok)
	}
}

// A call changes nothing for a later one, of the same table or of another one.
func TestP77P79P80P82P83P84NoStateIsKept(t *testing.T) {
	type asked struct {
		r impl.Rib
		x impl.Route
	}
	var all []asked
	for _, r := range slices.Concat(fewRibs(), fewNotRibs()) {
		for _, x := range givenRoutes(r) {
			all = append(all, asked{r, x})
		}
	}
	var first []impl.Rib
	for _, a := range all {
		for _, call := range ribCalls() {
			first = append(first, call(a.r, a.x))
		}
	}
	calls := len(ribCalls())
	for i, a := range slices.Backward(all) {
		for n, call := range ribCalls() {
			if got := call(a.r, a.x); !sameRib(got, first[i*calls+n]) {
				t.Fatalf("call %d for %v: another answer than before: %v", n, a.r, got)
			}
		}
	}
}

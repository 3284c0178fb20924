package tests

import (
	"slices"
	"testing"

	"loop.example/wayboard/impl"
)

func TestP43InvalidRoutes(t *testing.T) {
	for _, r := range slices.Concat(notRoutes(), fewNotRoutes()) {
		if isValidRoute(r) || impl.RouteOk(r) {
			t.Errorf("%v is no route", r)
		}
	}
}

func TestP43RoutesMadeInvalid(t *testing.T) {
	for _, r := range slices.Concat(bareRoutes(), markedRoutes(), closeRoutes()) {
		for _, none := range [][]int{nil, {}} {
			bad := r
			bad.Path = none
			if impl.RouteOk(bad) {
				t.Errorf("%v has no systems", bad)
			}
		}
		for _, like := range notLikes() {
			bad := r
			bad.Like = like
			if impl.RouteOk(bad) {
				t.Errorf("%v: the preference is out of range", bad)
			}
		}
		for i := range len(r.Marks) + 1 {
			for _, mark := range r.Marks {
				if bad := withMarks(r, slices.Insert(slices.Clone(r.Marks), i, mark)); impl.RouteOk(bad) {
					t.Errorf("%v has mark %d twice", bad, mark)
				}
			}
			for _, mark := range []int{-1, 0, 10} {
				if bad := withMarks(r, slices.Insert(slices.Clone(r.Marks), i, mark)); impl.RouteOk(bad) {
					t.Errorf("%v has %d, which is no mark", bad, mark)
				}
			}
		}
	}
}

func TestP43OkInEachField(t *testing.T) {
	base := route(64, 2, []int{3, 1}, 5, 2, 7)
	check := func(r impl.Route) {
		if got := impl.RouteOk(r); got != isValidRoute(r) {
			t.Errorf("%v ok: %v", r, got)
		}
	}
	for first := -2; first <= 258; first++ {
		for bits := -2; bits <= 10; bits++ {
			r := base
			r.Range = impl.Range{First: first, Bits: bits}
			check(r)
		}
	}
	for _, p := range lists() {
		r := base
		r.Path = p
		check(r)
	}
	for like := -3; like <= 12; like++ {
		r := base
		r.Like = like
		check(r)
	}
	for _, l := range markLists(4) {
		check(withMarks(base, l))
	}
}

// markLists are all lists of up to n numbers around the limits of marks.
func markLists(n int) [][]int {
	all := [][]int{{}}
	last := all
	for range n {
		var next [][]int
		for _, l := range last {
			for mark := -1; mark <= 11; mark++ {
				next = append(next, append(slices.Clone(l), mark))
			}
		}
		all = append(all, next...)
		last = next
	}
	return all
}

func TestP36P37InvalidRoutes(t *testing.T) {
	for _, r := range slices.Concat(notRoutes(), fewNotRoutes()) {
		for _, mark := range []int{1, 2, 5, 7, 9, 0, 10, -1} {
			if got, ok := impl.RouteMark(r, mark); ok || !isZeroRoute(got) {
				t.Errorf("mark %v with %d: %v %v", r, mark, got, ok)
			}
			if got, ok := impl.RouteClear(r, mark); ok || !isZeroRoute(got) {
				t.Errorf("clear %v of %d: %v %v", r, mark, got, ok)
			}
		}
	}
}

func TestP36P37NoMarks(t *testing.T) {
	for _, r := range slices.Concat(markedRoutes(), bareRoutes(), fewNotRoutes()) {
		for _, mark := range notMarks() {
			if got, ok := impl.RouteMark(r, mark); ok || !isZeroRoute(got) {
				t.Errorf("mark %v with %d: %v %v", r, mark, got, ok)
			}
			if got, ok := impl.RouteClear(r, mark); ok || !isZeroRoute(got) {
				t.Errorf("clear %v of %d: %v %v", r, mark, got, ok)
			}
		}
	}
}

func TestP39InvalidRoutesAreNotOrdered(t *testing.T) {
	good := []impl.Route{route(64, 2, []int{3, 1}, 5, 2, 7), route(0, 0, []int{1}, 9), route(255, 8, []int{5, 4, 3, 2, 1}, 0, 1, 2, 3, 4, 5, 6, 7, 8, 9)}
	for _, bad := range notRoutes() {
		for _, r := range slices.Concat(good, []impl.Route{bad, {}}, fewNotRoutes()[:16]) {
			if impl.RouteCmp(bad, r) != 0 || impl.RouteCmp(r, bad) != 0 {
				t.Errorf("cmp of %v and %v", bad, r)
			}
		}
	}
}

func TestP42InvalidRoutesHaveNoText(t *testing.T) {
	for _, r := range slices.Concat(notRoutes(), fewNotRoutes()) {
		if text := impl.RouteText(r); text != "" {
			t.Errorf("text of %v: %q", r, text)
		}
	}
}

func TestP40NoBestWithAnInvalidRoute(t *testing.T) {
	for _, bad := range notRoutes() {
		if got := impl.RouteBest([]impl.Route{bad}); got != -1 {
			t.Errorf("best of %v: %d", bad, got)
		}
	}
	d := &draw{at: 41}
	for n := 1; n <= 12; n++ {
		l := drawnRoutes(d, n)
		for _, bad := range fewNotRoutes() {
			for i := range n + 1 {
				if got := impl.RouteBest(slices.Insert(slices.Clone(l), i, bad)); got != -1 {
					t.Errorf("best of %d, with %v at %d: %d", n, bad, i, got)
				}
			}
		}
	}
}

// One array for all slices of the argument must not become one for those of the result.
func sharedRoutes() []impl.Route {
	l := []int{1, 2, 3, 4, 5, 6, 7, 8, 9}
	return []impl.Route{
		{Path: l[:2], Like: 1, Marks: l[:2]}, {Path: l[:3], Like: 1, Marks: l[3:5]}, {Path: l[:5], Like: 1, Marks: l[:9]}, {Path: l[:1], Like: 1, Marks: l[:0]}, {Path: l[2:5], Like: 1, Marks: l[0:3]},
	}
}

func TestP36P37ResultsAreNewMemory(t *testing.T) {
	for name, do := range map[string]func(impl.Route, int) (impl.Route, bool){"mark": impl.RouteMark, "clear": impl.RouteClear} {
		given := slices.Concat(sharedRoutes(), fewNotRoutes())
		for _, r := range slices.Concat(bareRoutes(), markedRoutes(), closeRoutes(), fewNotRoutes()) {
			given = append(given, roomyRoute(r))
		}
		for _, r := range given {
			for mark := 0; mark <= 10; mark++ {
				kept := memoryOf(r)
				first, _ := do(r, mark)
				second, _ := do(r, mark)
				want := deepRoute(second)
				if !slices.Equal(memoryOf(r), kept) {
					t.Fatalf("%s %v, %d: the argument is changed", name, r, mark)
				}
				scribblePath(first.Path)
				if !slices.Equal(first.Marks, want.Marks) {
					t.Fatalf("%s %v, %d: the path and the marks share memory", name, r, mark)
				}
				scribblePath(first.Marks)
				if !slices.Equal(memoryOf(r), kept) || !sameRoute(second, want) {
					t.Fatalf("%s %v, %d: the result shares memory", name, r, mark)
				}
			}
		}
	}
}

func TestP36P37ResultsStayWhenTheArgumentChanges(t *testing.T) {
	for _, r := range slices.Concat(bareRoutes(), markedRoutes(), closeRoutes()) {
		for mark := 1; mark <= 9; mark++ {
			given := roomyRoute(r)
			marked, cleared := routeMark(t, given, mark), routeClear(t, given, mark)
			scribblePath(given.Path)
			scribblePath(given.Marks)
			if !sameRoute(marked, withMark(r, mark)) || !sameRoute(cleared, withoutMark(r, mark)) {
				t.Fatalf("%v, %d: %v %v", r, mark, marked, cleared)
			}
		}
	}
}

func TestP39P42P43ArgumentsStay(t *testing.T) {
	for _, r := range slices.Concat(bareRoutes(), markedRoutes(), closeRoutes(), notRoutes()) {
		a, b := roomyRoute(r), roomyRoute(r)
		keptA, keptB := memoryOf(a), memoryOf(b)
		impl.RouteOk(a)
		impl.RouteText(a)
		impl.RouteCmp(a, b)
		impl.RouteCmp(a, a)
		if !slices.Equal(memoryOf(a), keptA) || !slices.Equal(memoryOf(b), keptB) {
			t.Errorf("%v is changed: %v %v", r, a, b)
		}
	}
}

func TestP40BestChangesNoList(t *testing.T) {
	for i, l := range routeLists() {
		given := make([]impl.Route, 0, len(l)+2)
		for _, r := range l {
			given = append(given, roomyRoute(r))
		}
		if i%2 == 1 {
			given = append(given, fewNotRoutes()[i%16])
		}
		all := given[:cap(given)]
		kept := deepRoutes(all)
		var memory [][]int
		for _, r := range all {
			memory = append(memory, memoryOf(r))
		}
		impl.RouteBest(given)
		for j, r := range all {
			if !sameRoute(r, kept[j]) || !slices.Equal(memoryOf(r), memory[j]) {
				t.Fatalf("best of %v: %d is changed", l, j)
			}
		}
	}
}

// What a route is does not depend on the room behind its slices.
func TestP39P42P43RoomDoesNotMatter(t *testing.T) {
	for _, r := range slices.Concat(bareRoutes(), markedRoutes(), closeRoutes()) {
		if x := roomyRoute(r); !impl.RouteOk(x) || impl.RouteText(x) != impl.RouteText(r) || impl.RouteCmp(x, r) != 0 {
			t.Errorf("%v with room behind its slices", r)
		}
	}
}

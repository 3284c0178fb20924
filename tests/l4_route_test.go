package tests

import (
	"slices"
	"strconv"
	"testing"

	"loop.example/wayboard/impl"
)

// routeMark is RouteMark where it must succeed.
func routeMark(t *testing.T, r impl.Route, mark int) impl.Route {
	t.Helper()
	got, ok := impl.RouteMark(r, mark)
	if !ok {
		t.Fatalf("mark %v with %d: %v", r, mark, got)
	}
	return got
}

// routeClear is RouteClear where it must succeed.
func routeClear(t *testing.T, r impl.Route, mark int) impl.Route {
	t.Helper()
	got, ok := impl.RouteClear(r, mark)
	if !ok {
		t.Fatalf("clear %v of %d: %v", r, mark, got)
	}
	return got
}

func TestRouteLimits(t *testing.T) {
	if impl.LikeMax != 9 || impl.MarkMax != 9 {
		t.Error(impl.LikeMax, impl.MarkMax)
	}
	for _, r := range slices.Concat(bareRoutes(), markedRoutes(), closeRoutes(), variedRoutes(), drawnRoutes(&draw{at: 3}, 500)) {
		if !isValidRoute(r) || !impl.RouteOk(r) {
			t.Errorf("%v is a route", r)
		}
	}
	for _, marks := range [][]int{nil, {}, {1, 2, 3, 4, 5, 6, 7, 8, 9}} {
		if !impl.RouteOk(route(0, 0, []int{1}, 0, marks...)) || !impl.RouteOk(route(255, 8, []int{5, 4, 3, 2, 1}, 9, marks...)) {
			t.Error("marks:", marks)
		}
	}
}

func TestP36Mark(t *testing.T) {
	for _, r := range markedRoutes() {
		for mark := 1; mark <= 9; mark++ {
			once := routeMark(t, r, mark)
			if !sameRoute(once, withMark(r, mark)) || !impl.RouteOk(once) || !slices.Contains(once.Marks, mark) {
				t.Errorf("mark %v with %d: %v", r, mark, once)
			}
			if twice := routeMark(t, once, mark); !sameRoute(twice, once) {
				t.Errorf("mark %v with %d twice: %v", r, mark, twice)
			}
			if cleared := routeClear(t, once, mark); !sameRoute(cleared, withoutMark(r, mark)) {
				t.Errorf("mark %v with %d and clear it: %v", r, mark, cleared)
			}
		}
	}
}

func TestP36MarkOfSomeRoutes(t *testing.T) {
	full := []int{1, 2, 3, 4, 5, 6, 7, 8, 9}
	for _, c := range []struct {
		marks []int
		mark  int
		want  []int
	}{
		{nil, 1, []int{1}}, {[]int{}, 9, []int{9}}, {[]int{5}, 2, []int{2, 5}}, {[]int{5}, 7, []int{5, 7}}, {[]int{2, 7}, 5, []int{2, 5, 7}},
		{[]int{5}, 5, []int{5}}, {[]int{2, 5}, 2, []int{2, 5}}, {[]int{2, 5}, 5, []int{2, 5}}, {full, 1, full}, {full, 5, full}, {full, 9, full}, {full[:8], 9, full}, {full[1:], 1, full},
	} {
		for _, r := range bareRoutes() {
			if got := routeMark(t, withMarks(r, c.marks), c.mark); !sameRoute(got, withMarks(r, c.want)) {
				t.Errorf("mark %v with %d: %v", withMarks(r, c.marks), c.mark, got)
			}
		}
	}
}

func TestP37Clear(t *testing.T) {
	for _, r := range markedRoutes() {
		for mark := 1; mark <= 9; mark++ {
			cleared := routeClear(t, r, mark)
			if !sameRoute(cleared, withoutMark(r, mark)) || !impl.RouteOk(cleared) || slices.Contains(cleared.Marks, mark) {
				t.Errorf("clear %v of %d: %v", r, mark, cleared)
			}
			if !slices.Contains(r.Marks, mark) && !sameRoute(cleared, r) {
				t.Errorf("%v has no %d, but without it is %v", r, mark, cleared)
			}
			if again := routeClear(t, cleared, mark); !sameRoute(again, cleared) {
				t.Errorf("clear %v of %d twice: %v", r, mark, again)
			}
			if restored := routeMark(t, cleared, mark); slices.Contains(r.Marks, mark) && !sameRoute(restored, r) {
				t.Errorf("clear %v of %d and mark it: %v", r, mark, restored)
			}
		}
	}
}

func TestP37ClearOfSomeRoutes(t *testing.T) {
	full := []int{1, 2, 3, 4, 5, 6, 7, 8, 9}
	for _, c := range []struct {
		marks []int
		mark  int
		want  []int
	}{
		{nil, 1, nil}, {[]int{}, 9, nil}, {[]int{5}, 5, nil}, {[]int{5}, 2, []int{5}}, {[]int{2, 5}, 5, []int{2}}, {[]int{2, 5}, 2, []int{5}},
		{[]int{2, 5, 7}, 5, []int{2, 7}}, {full, 9, full[:8]}, {full, 1, full[1:]}, {full, 5, []int{1, 2, 3, 4, 6, 7, 8, 9}}, {[]int{2, 7}, 9, []int{2, 7}},
	} {
		for _, r := range bareRoutes() {
			if got := routeClear(t, withMarks(r, c.marks), c.mark); !sameRoute(got, withMarks(r, c.want)) {
				t.Errorf("clear %v of %d: %v", withMarks(r, c.marks), c.mark, got)
			}
		}
	}
}

func TestP38MarksInEitherOrder(t *testing.T) {
	for _, r := range markedRoutes() {
		for first := 1; first <= 9; first++ {
			for second := 1; second <= 9; second++ {
				a := routeMark(t, routeMark(t, r, first), second)
				b := routeMark(t, routeMark(t, r, second), first)
				if !sameRoute(a, b) || !sameRoute(a, withMark(withMark(r, first), second)) {
					t.Errorf("mark %v with %d and %d: %v %v", r, first, second, a, b)
				}
			}
		}
	}
}

// cmps checks the order of two routes, both ways.
func cmps(t *testing.T, a, b impl.Route) {
	t.Helper()
	got := impl.RouteCmp(a, b)
	if got != orderOf(a, b) || impl.RouteCmp(b, a) != -got || (got == 0) != sameRoute(a, b) {
		t.Errorf("cmp %v %v: %d", a, b, got)
	}
	if a.Like > b.Like && got != -1 {
		t.Errorf("%v is liked more than %v: %d", a, b, got)
	}
	if path := impl.PathCmp(a.Path, b.Path); a.Like == b.Like && path != 0 && got != path {
		t.Errorf("cmp %v %v: %d, but of their paths %d", a, b, got, path)
	}
}

func TestP39CmpOrders(t *testing.T) {
	all := slices.Concat(closeRoutes(), drawnRoutes(&draw{at: 39}, 200))
	for _, a := range all {
		for _, b := range all {
			cmps(t, a, b)
		}
		cmps(t, a, deepRoute(a))
	}
}

// The sample shares a preference, a path and a prefix with most others, so that the later criteria decide, too.
func TestP39CmpInOneThing(t *testing.T) {
	all := variedRoutes()
	for i, a := range all {
		for j := i % 3; j < len(all); j += 3 {
			cmps(t, a, all[j])
		}
	}
}

func TestP39CmpOfSomeRoutes(t *testing.T) {
	for _, c := range []struct {
		a, b impl.Route
		want int
	}{
		{route(64, 2, []int{5, 4, 3}, 6, 8, 9), route(0, 0, []int{1}, 5), -1},
		{route(0, 0, []int{1}, 9), route(0, 0, []int{1}, 0), -1},
		{route(64, 2, []int{5}, 5, 8, 9), route(0, 0, []int{1, 2}, 5), -1},
		{route(64, 2, []int{1, 5}, 5, 8, 9), route(0, 0, []int{2, 1}, 5), -1},
		{route(0, 0, []int{1}, 5, 8, 9), route(0, 1, []int{1}, 5), -1},
		{route(0, 8, []int{1}, 5, 8, 9), route(64, 2, []int{1}, 5), -1},
		{route(64, 2, []int{1}, 5), route(64, 2, []int{1}, 5, 1), -1},
		{route(64, 2, []int{1}, 5, 9), route(64, 2, []int{1}, 5, 1, 2), -1},
		{route(64, 2, []int{1}, 5, 1, 9), route(64, 2, []int{1}, 5, 2, 3), -1},
		{route(64, 2, []int{1}, 5, 1, 3), route(64, 2, []int{1}, 5, 1, 4), -1},
		{route(64, 2, []int{1}, 5, 1, 4), route(64, 2, []int{1}, 5, 1, 4), 0},
		{impl.Route{Path: []int{1}, Marks: nil}, impl.Route{Path: []int{1}, Marks: []int{}}, 0},
	} {
		if got := impl.RouteCmp(c.a, c.b); got != c.want {
			t.Errorf("cmp %v %v: %d", c.a, c.b, got)
		}
		if got := impl.RouteCmp(c.b, c.a); got != -c.want {
			t.Errorf("cmp %v %v: %d", c.b, c.a, got)
		}
	}
}

func TestP40BestIsTheFirstOfTheBest(t *testing.T) {
	for _, l := range routeLists() {
		best := impl.RouteBest(l)
		if best != bestOf(l) || (best == -1) != (len(l) == 0) {
			t.Fatalf("best of %v: %d", l, best)
		}
		for i, r := range l {
			if got := impl.RouteCmp(r, l[best]); got == -1 || got == 0 && i < best {
				t.Errorf("best of %v: %d, but %d is better", l, best, i)
			}
		}
	}
	if impl.RouteBest(nil) != -1 || impl.RouteBest([]impl.Route{}) != -1 {
		t.Error("there is no best of no routes")
	}
	for _, r := range slices.Concat(closeRoutes(), markedRoutes()) {
		if got := impl.RouteBest([]impl.Route{r}); got != 0 {
			t.Errorf("best of %v alone: %d", r, got)
		}
	}
}

// The best route is put at each place of lists of each length, once and repeated.
func TestP40BestAtEachPlace(t *testing.T) {
	best, d := route(0, 0, []int{1}, 9), &draw{at: 40}
	for n := 1; n <= 20; n++ {
		for first := range n {
			l := drawnRoutes(d, n)
			for i := range l {
				l[i].Like = min(l[i].Like, 8)
			}
			l[first] = best
			if got := impl.RouteBest(l); got != first {
				t.Errorf("best of %d: %d, not %d", n, got, first)
			}
			for later := first + 1; later < n; later++ {
				l[later] = deepRoute(best)
				if got := impl.RouteBest(l); got != first {
					t.Errorf("best of %d, also at %d: %d, not %d", n, later, got, first)
				}
			}
		}
	}
	for _, n := range []int{2, 3, 7, 8, 100, 3000} {
		if got := impl.RouteBest(slices.Repeat([]impl.Route{best}, n)); got != 0 {
			t.Errorf("best of %d equal ones: %d", n, got)
		}
	}
}

func TestP41BestOfTheReversedList(t *testing.T) {
	for _, l := range routeLists() {
		if len(l) == 0 {
			continue
		}
		best := l[impl.RouteBest(l)]
		for i := 0; i <= len(l); i += 1 + len(l)/10 {
			repeated := slices.Insert(slices.Clone(l), i, best)
			for _, turned := range [][]impl.Route{slices.Clone(l), repeated} {
				slices.Reverse(turned)
				if got := impl.RouteBest(turned); got != bestOf(turned) || !sameRoute(turned[got], best) {
					t.Fatalf("best of %v: %d, not %v", turned, got, best)
				}
			}
			if got := impl.RouteBest(repeated); !sameRoute(repeated[got], best) {
				t.Fatalf("best of %v: %d, not %v", repeated, got, best)
			}
		}
	}
}

func wantText(r impl.Route) string {
	text := strconv.Itoa(r.Range.First) + "/" + strconv.Itoa(r.Range.Bits) + " " + textOf(r.Path) + " " + string(rune('0'+r.Like)) + " m"
	for _, mark := range r.Marks {
		text += string(rune('0' + mark))
	}
	return text
}

func TestP42TextsDiffer(t *testing.T) {
	known := map[string]impl.Route{}
	for _, r := range slices.Concat(variedRoutes(), markedRoutes(), bareRoutes(), closeRoutes(), drawnRoutes(&draw{at: 42}, 5000)) {
		text := impl.RouteText(r)
		if text != wantText(r) {
			t.Errorf("text of %v: %q", r, text)
		}
		if other, ok := known[text]; ok && !sameRoute(other, r) {
			t.Errorf("%v and %v: %q", r, other, text)
		}
		known[text] = r
	}
}

func TestP42TextOfSomeRoutes(t *testing.T) {
	for _, c := range []struct {
		r    impl.Route
		text string
	}{
		{route(64, 2, []int{3, 1}, 5, 2, 7), "64/2 3-1 5 m27"},
		{route(0, 0, []int{1}, 0), "0/0 1 0 m"},
		{impl.Route{Path: []int{4}, Marks: []int{}}, "0/0 4 0 m"},
		{route(255, 8, []int{5, 4, 3, 2, 1}, 9, 1, 2, 3, 4, 5, 6, 7, 8, 9), "255/8 5-4-3-2-1 9 m123456789"},
		{route(128, 1, []int{2}, 1, 9), "128/1 2 1 m9"},
	} {
		if got := impl.RouteText(c.r); got != c.text {
			t.Errorf("text of %v: %q", c.r, got)
		}
	}
}

func TestP44CmpIsTransitive(t *testing.T) {
	all := slices.Concat(closeRoutes(), drawnRoutes(&draw{at: 44}, 100))
	order := make([][]int, len(all))
	for i, a := range all {
		for _, b := range all {
			order[i] = append(order[i], impl.RouteCmp(a, b))
		}
	}
	for i := range all {
		for j := range all {
			for k := range all {
				if order[i][j] <= 0 && order[j][k] <= 0 && order[i][k] != min(order[i][j], order[j][k]) {
					t.Fatalf("cmp of %v, %v and %v: %d %d %d", all[i], all[j], all[k], order[i][j], order[j][k], order[i][k])
				}
			}
		}
	}
}

func TestP45BestWithARouteAppended(t *testing.T) {
	near := closeRoutes()
	for n, l := range routeLists() {
		best := impl.RouteBest(l)
		for i := n % 7; i < len(near); i += 7 {
			r := near[i]
			want := best
			if len(l) == 0 || orderOf(r, l[best]) == -1 {
				want = len(l)
			}
			if got := impl.RouteBest(append(slices.Clone(l), r)); got != want {
				t.Fatalf("best of %v and %v: %d, not %d", l, r, got, want)
			}
		}
		if len(l) == 0 {
			continue
		}
		if got := impl.RouteBest(append(slices.Clone(l), l[best])); got != best {
			t.Fatalf("best of %v, with the best repeated: %d, not %d", l, got, best)
		}
	}
}

func TestP46MarksDecideLast(t *testing.T) {
	some := [][]int{nil, {}, {1}, {9}, {1, 2}, {8, 9}, {1, 2, 3, 4, 5, 6, 7, 8, 9}}
	all := bareRoutes()
	for _, a := range all {
		for _, b := range all {
			if sameRoute(a, b) {
				continue
			}
			want := orderOf(a, b)
			for _, x := range some {
				for _, y := range some {
					if got := impl.RouteCmp(withMarks(a, x), withMarks(b, y)); got != want {
						t.Errorf("cmp of %v and %v, marked %v and %v: %d, not %d", a, b, x, y, got, want)
					}
				}
			}
		}
	}
}

func TestP46EachListOfMarks(t *testing.T) {
	base := route(64, 2, []int{3, 1}, 5)
	for _, worse := range []impl.Route{route(64, 2, []int{3, 1}, 4), route(64, 2, []int{3, 2}, 5), route(64, 3, []int{3, 1}, 5)} {
		for _, x := range allMarks() {
			for _, y := range allMarks() {
				if got := impl.RouteCmp(withMarks(base, x), withMarks(worse, y)); got != -1 {
					t.Fatalf("cmp of %v and %v, marked %v and %v: %d", base, worse, x, y, got)
				}
			}
		}
	}
}

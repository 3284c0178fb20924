package tests

import (
	"slices"
	"strings"

	"loop.example/wayboard/impl"
)

// The expectations here keep marks as a set of bits and order routes by one text each, so that they share no search, no comparison and no heap with the program.

func route(first, bits int, path []int, like int, marks ...int) impl.Route {
	return impl.Route{Range: impl.Range{First: first, Bits: bits}, Path: path, Like: like, Marks: marks}
}

func isMarks(l []int) bool {
	return slices.Equal(l, marksOf(setOf(l)))
}

// marksOf are the marks 1 to 9 of a set of bits.
func marksOf(set int) []int {
	var l []int
	for mark := 1; mark <= 9; mark++ {
		if set>>mark&1 == 1 {
			l = append(l, mark)
		}
	}
	return l
}

// setOf leaves out what is no mark.
func setOf(l []int) int {
	set := 0
	for _, mark := range l {
		if 1 <= mark && mark <= 9 {
			set |= 1 << mark
		}
	}
	return set
}

func isValidRoute(r impl.Route) bool {
	return isPrefix(r.Range) && len(r.Path) > 0 && isPath(r.Path) && 0 <= r.Like && r.Like <= 9 && isMarks(r.Marks)
}

func sameRoute(a, b impl.Route) bool {
	return a.Range == b.Range && slices.Equal(a.Path, b.Path) && a.Like == b.Like && slices.Equal(a.Marks, b.Marks)
}

func withMarks(r impl.Route, marks []int) impl.Route {
	r.Marks = marks
	return r
}

func withMark(r impl.Route, mark int) impl.Route {
	return withMarks(r, marksOf(setOf(r.Marks)|1<<mark))
}

func withoutMark(r impl.Route, mark int) impl.Route {
	return withMarks(r, marksOf(setOf(r.Marks)&^(1<<mark)))
}

// rankOf is smaller for a better route. A length stands ahead of each list, so that lists are compared only if they are of the same length.
func rankOf(r impl.Route) string {
	key := []byte{byte(9 - r.Like), byte(len(r.Path))}
	for _, house := range r.Path {
		key = append(key, byte(house))
	}
	key = append(key, byte(r.Range.First), byte(r.Range.Bits), byte(len(r.Marks)))
	for _, mark := range r.Marks {
		key = append(key, byte(mark))
	}
	return string(key)
}

func orderOf(a, b impl.Route) int {
	return strings.Compare(rankOf(a), rankOf(b))
}

// bestOf is the first index at which the smallest rank stands.
func bestOf(l []impl.Route) int {
	best := -1
	for i, r := range l {
		if best == -1 || rankOf(r) < rankOf(l[best]) {
			best = i
		}
	}
	return best
}

// allMarks are all 512 lists of marks.
func allMarks() [][]int {
	var all [][]int
	for set := 0; set < 512; set++ {
		all = append(all, marksOf(set<<1))
	}
	return all
}

// bareRoutes differ in the prefix, the path and the preference, and have no marks.
func bareRoutes() []impl.Route {
	var all []impl.Route
	for _, r := range []impl.Range{{First: 0, Bits: 0}, {First: 0, Bits: 8}, {First: 64, Bits: 2}, {First: 255, Bits: 8}} {
		for _, p := range [][]int{{1}, {5}, {3, 1}, {1, 3}, {1, 2, 3, 4, 5}} {
			for _, like := range []int{0, 5, 9} {
				all = append(all, impl.Route{Range: r, Path: p, Like: like})
			}
		}
	}
	return all
}

// markedRoutes are some routes, with each list of marks.
func markedRoutes() []impl.Route {
	var all []impl.Route
	for _, marks := range allMarks() {
		all = append(all, route(64, 2, []int{3, 1}, 5, marks...), route(0, 0, []int{5}, 0, marks...), route(255, 8, []int{1, 2, 3, 4, 5}, 9, marks...))
	}
	return all
}

// closeRoutes differ from each other in one thing or in several, each of which decides against the others.
func closeRoutes() []impl.Route {
	var all []impl.Route
	for _, like := range []int{0, 4, 9} {
		for _, p := range [][]int{{5}, {1, 2}, {2, 1}} {
			for _, r := range []impl.Range{{First: 0, Bits: 0}, {First: 0, Bits: 8}, {First: 64, Bits: 2}} {
				for _, marks := range [][]int{nil, {9}, {1, 9}, {2, 3}, {1, 2, 3, 4, 5, 6, 7, 8, 9}} {
					all = append(all, impl.Route{Range: r, Path: p, Like: like, Marks: marks})
				}
			}
		}
	}
	return all
}

// variedRoutes are one route, with each preference, each path, each prefix and each list of marks.
func variedRoutes() []impl.Route {
	base := route(64, 2, []int{3, 1}, 5, 2, 7)
	var all []impl.Route
	for like := 0; like <= 9; like++ {
		r := base
		r.Like = like
		all = append(all, r)
	}
	for _, p := range paths()[1:] {
		r := base
		r.Path = p
		all = append(all, r)
	}
	for _, prefix := range prefixes() {
		r := base
		r.Range = prefix
		all = append(all, r)
	}
	for _, marks := range allMarks() {
		all = append(all, withMarks(base, marks))
	}
	return all
}

func drawnRoute(d *draw) impl.Route {
	known, ways := prefixes(), paths()
	return impl.Route{Range: known[d.below(len(known))], Path: ways[1+d.below(len(ways)-1)], Like: d.below(10), Marks: marksOf(d.below(512) << 1)}
}

func drawnRoutes(d *draw, n int) []impl.Route {
	var all []impl.Route
	for range n {
		all = append(all, drawnRoute(d))
	}
	return all
}

// routeLists are lists with routes at every place, often equal ones: all lists of up to four out of a few, and long ones.
func routeLists() [][]impl.Route {
	few := []impl.Route{
		route(64, 2, []int{3, 1}, 5, 2, 7), route(64, 2, []int{3, 1}, 5, 2, 6), route(64, 2, []int{3, 1}, 5),
		route(0, 0, []int{3, 1}, 5, 1), route(64, 2, []int{4}, 5, 9), route(64, 2, []int{1, 2, 3, 4, 5}, 6, 1, 2, 3), route(0, 0, []int{1}, 0),
	}
	all := [][]impl.Route{{}}
	last := all
	for range 4 {
		var next [][]impl.Route
		for _, l := range last {
			for _, r := range few {
				next = append(next, append(slices.Clone(l), r))
			}
		}
		all = append(all, next...)
		last = next
	}
	d := &draw{at: 4}
	near := closeRoutes()
	for n := range 40 {
		l := drawnRoutes(d, n)
		for range n {
			l = append(l, near[d.below(len(near))])
		}
		all = append(all, l)
	}
	return append(all, near, drawnRoutes(d, 1000))
}

func notMarks() []int {
	return append([]int{-7, 0, 10, 11, 12, 19, 63, 64, 65, 66, 73, 128, 129}, extremes...)
}

// notMarkLists are of each kind that marks are not: repeated, descending, or with what is no mark.
func notMarkLists() [][]int {
	all := [][]int{
		{1, 1}, {9, 9}, {2, 2, 7}, {2, 7, 7}, {1, 2, 1}, {2, 1}, {9, 8}, {7, 2}, {1, 3, 2}, {2, 1, 3}, {9, 8, 7, 6, 5, 4, 3, 2, 1}, {1, 2, 3, 4, 5, 6, 7, 9, 8},
		{0, 1, 2, 3, 4, 5, 6, 7, 8, 9}, {1, 2, 3, 4, 5, 6, 7, 8, 9, 10}, {1, 2, 3, 4, 5, 6, 7, 8, 9, 9}, {1, 1, 2, 3, 4, 5, 6, 7, 8, 9},
		make([]int, 9), make([]int, 5000), slices.Repeat([]int{1, 2, 3}, 1000),
	}
	for _, bad := range notMarks() {
		all = append(all, []int{bad}, []int{bad, 1}, []int{9, bad}, []int{bad, 9}, []int{1, bad, 9}, []int{1, 2, 3, 4, 5, 6, 7, 8, bad}, []int{bad, 2, 3, 4, 5, 6, 7, 8, 9})
	}
	return all
}

func notLikes() []int {
	return append([]int{-7, 10, 11, 12, 19, 64, 128}, extremes...)
}

// notRoutes are invalid in one field, for all kinds of that, or in several.
func notRoutes() []impl.Route {
	all := []impl.Route{{}, {Path: []int{}, Marks: []int{}}, {Path: nil, Like: 5, Marks: []int{1}}, route(64, 2, nil, 5, 2), route(64, 2, []int{}, 5, 2)}
	for _, r := range notPrefixes() {
		all = append(all, impl.Route{Range: r, Path: []int{3, 1}, Like: 5, Marks: []int{2, 7}})
	}
	for _, p := range notPaths() {
		all = append(all, route(64, 2, p, 5, 2, 7))
	}
	for _, like := range notLikes() {
		all = append(all, route(64, 2, []int{3, 1}, like, 2, 7), route(0, 0, []int{1}, like))
	}
	for _, marks := range notMarkLists() {
		all = append(all, route(64, 2, []int{3, 1}, 5, marks...), route(0, 0, []int{1}, 0, marks...))
	}
	for _, n := range extremes {
		all = append(all, route(n, n, []int{n, n}, n, n, n), route(n, 2, []int{n}, 5, n), route(64, n, []int{3, 1}, n))
	}
	return all
}

// fewNotRoutes are of each kind, for tests that try many other things with each.
func fewNotRoutes() []impl.Route {
	all := []impl.Route{
		{}, route(64, 2, nil, 5, 2), route(64, 2, []int{}, 5, 2), route(65, 2, []int{3, 1}, 5, 2), route(64, -1, []int{3, 1}, 5, 2), route(0, 9, []int{3, 1}, 5, 2),
		route(64, 2, []int{3, 3}, 5, 2), route(64, 2, []int{0}, 5, 2), route(64, 2, []int{6}, 5, 2), route(64, 2, []int{3, 1}, -1, 2), route(64, 2, []int{3, 1}, 10, 2),
		route(64, 2, []int{3, 1}, 5, 2, 2), route(64, 2, []int{3, 1}, 5, 7, 2), route(64, 2, []int{3, 1}, 5, 0), route(64, 2, []int{3, 1}, 5, 10), route(64, 2, []int{3, 1}, 5, -1, 2),
	}
	for _, n := range extremes {
		all = append(all, route(n, n, []int{n}, n, n), route(64, 2, []int{3, 1}, n, 2), route(64, 2, []int{3, 1}, 5, n))
	}
	return all
}

// roomyRoute has slices of its own with room behind them, as a careless append would use.
func roomyRoute(r impl.Route) impl.Route {
	r.Path, r.Marks = roomyPath(r.Path), roomyPath(r.Marks)
	return r
}

// memoryOf is what the slices of a route hold, to the end of their capacity.
func memoryOf(r impl.Route) []int {
	return slices.Concat(r.Path[:cap(r.Path)], r.Marks[:cap(r.Marks)])
}

func deepRoute(r impl.Route) impl.Route {
	r.Path, r.Marks = slices.Clone(r.Path), slices.Clone(r.Marks)
	return r
}

func deepRoutes(l []impl.Route) []impl.Route {
	out := make([]impl.Route, len(l))
	for i, r := range l {
		out[i] = deepRoute(r)
	}
	return out
}

func isZeroRoute(r impl.Route) bool {
	return sameRoute(r, impl.Route{})
}

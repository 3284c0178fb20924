package tests

import (
	"maps"
	"slices"
	"sync"

	"loop.example/wayboard/impl"
)

// The expectations here keep routes in a map by prefix and sort it, so that they share no list and no error with the program.

func fresh(r impl.Route) impl.Got {
	return impl.Got{Route: r}
}

func stale(r impl.Route) impl.Got {
	return impl.Got{Route: r, Old: true}
}

func upRib(house int, all ...impl.Got) impl.Rib {
	return impl.Rib{House: house, Up: true, All: all}
}

func downRib(house int, all ...impl.Got) impl.Rib {
	return impl.Rib{House: house, All: all}
}

func sameGot(a, b impl.Got) bool {
	return a.Old == b.Old && sameRoute(a.Route, b.Route)
}

func sameRib(a, b impl.Rib) bool {
	return a.House == b.House && a.Up == b.Up && slices.EqualFunc(a.All, b.All, sameGot)
}

func sameAnswer(a impl.Rib, aOk bool, b impl.Rib, bOk bool) bool {
	return aOk == bOk && sameRib(a, b)
}

func deepRib(r impl.Rib) impl.Rib {
	r.All = slices.Clone(r.All)
	for i, g := range r.All {
		r.All[i].Route = deepRoute(g.Route)
	}
	return r
}

func isFrom(house int, x impl.Route) bool {
	return isValidRoute(x) && x.Path[0] == house
}

func isRib(r impl.Rib) bool {
	for i, g := range r.All {
		if !isFrom(r.House, g.Route) || !r.Up && !g.Old || i > 0 && !before(r.All[i-1].Route.Range, g.Route.Range) {
			return false
		}
	}
	return within(r.House, 1, 5) && len(r.All) <= 6
}

// record is what a neighbor announced, by prefix.
type record map[impl.Range]impl.Got

func recordOf(r impl.Rib) record {
	all := record{}
	for _, g := range r.All {
		all[g.Route.Range] = g
	}
	return all
}

func (x record) in(r impl.Rib) impl.Rib {
	r.All = nil
	for _, prefix := range slices.SortedFunc(maps.Keys(x), orderOfPrefixes) {
		r.All = append(r.All, x[prefix])
	}
	return r
}

func orderOfPrefixes(a, b impl.Range) int {
	if before(a, b) {
		return -1
	}
	return 1
}

func afterTell(r impl.Rib, x impl.Route) (impl.Rib, bool) {
	if !isRib(r) || !isFrom(r.House, x) {
		return impl.Rib{}, false
	}
	all := recordOf(r)
	all[x.Range] = fresh(x)
	if !r.Up || len(all) > 6 {
		return r, false
	}
	return all.in(r), true
}

func afterDrop(r impl.Rib, x impl.Range) (impl.Rib, bool) {
	if !isRib(r) || !isPrefix(x) {
		return impl.Rib{}, false
	}
	all := recordOf(r)
	_, found := all[x]
	if !r.Up || !found {
		return r, false
	}
	delete(all, x)
	return all.in(r), true
}

func afterDown(r impl.Rib, gently bool) impl.Rib {
	if !isRib(r) {
		return impl.Rib{}
	}
	if !gently {
		return downRib(r.House)
	}
	return marked(impl.Rib{House: r.House, All: r.All}, true)
}

func afterUp(r impl.Rib) impl.Rib {
	if !isRib(r) {
		return impl.Rib{}
	}
	return upRib(r.House, r.All...)
}

func afterEnd(r impl.Rib) impl.Rib {
	if !isRib(r) {
		return impl.Rib{}
	}
	r.All = slices.DeleteFunc(slices.Clone(r.All), func(g impl.Got) bool { return g.Old })
	return r
}

func foundIn(r impl.Rib, x impl.Range) (impl.Route, bool) {
	if !isRib(r) {
		return impl.Route{}, false
	}
	g, found := recordOf(r)[x]
	return g.Route, found
}

// marked is a table with all routes stale, or none.
func marked(r impl.Rib, old bool) impl.Rib {
	r.All = slices.Clone(r.All)
	for i := range r.All {
		r.All[i].Old = old
	}
	return r
}

// change is a call that returns a table, with what the document requires of it.
type change struct {
	name string
	call func(impl.Rib) impl.Rib
	want func(impl.Rib) impl.Rib
}

// changes take the session down and up, and end a restart.
func changes() []change {
	return []change{
		{"down gently", func(r impl.Rib) impl.Rib { return impl.RibDown(r, true) }, func(r impl.Rib) impl.Rib { return afterDown(r, true) }},
		{"down", func(r impl.Rib) impl.Rib { return impl.RibDown(r, false) }, func(r impl.Rib) impl.Rib { return afterDown(r, false) }},
		{"up", impl.RibUp, afterUp},
		{"end", impl.RibEnd, afterEnd},
	}
}

var knownPaths = sync.OnceValue(paths)

// waysFrom are the 65 paths that start with a system.
func waysFrom(house int) [][]int {
	var all [][]int
	for _, p := range knownPaths() {
		if len(p) > 0 && p[0] == house {
			all = append(all, slices.Clone(p))
		}
	}
	return all
}

// announced is a route by a system, which differs from those of other numbers in path, preference and communities.
func announced(house, number int, r impl.Range) impl.Route {
	ways := waysFrom(house)
	return impl.Route{Range: r, Path: ways[number*7%len(ways)], Like: number * 3 % 10, Marks: marksOf(number * 37 % 512 << 1)}
}

// ladder are prefixes in order, nested and beside each other, up to all addresses and down to one.
func ladder() []impl.Range {
	return []impl.Range{{First: 0, Bits: 0}, {First: 0, Bits: 1}, {First: 64, Bits: 2}, {First: 77, Bits: 8}, {First: 128, Bits: 1}, {First: 255, Bits: 8}}
}

// ladderRib has, for each digit of a number of base 3, a route of the ladder: none, one that is not stale, or a stale one.
func ladderRib(house int, code int) impl.Rib {
	r := upRib(house)
	for i, prefix := range ladder() {
		if code%3 > 0 {
			r.All = append(r.All, impl.Got{Route: announced(house, i+1, prefix), Old: code%3 == 2})
		}
		code /= 3
	}
	return r
}

// ladderRibs are all tables with routes of the ladder, as far as they are not stale or not while the session is up.
func ladderRibs(house int) []impl.Rib {
	var all []impl.Rib
	for code := range 729 {
		r := ladderRib(house, code)
		all = append(all, r)
		if !slices.ContainsFunc(r.All, func(g impl.Got) bool { return !g.Old }) {
			all = append(all, downRib(house, r.All...))
		}
	}
	return all
}

// drawnRib has so many routes to prefixes that may be anywhere, or near each other.
func drawnRib(d *draw, many int) impl.Rib {
	r := impl.Rib{House: 1 + d.below(5), Up: d.below(3) > 0}
	known := prefixes()
	if d.below(2) == 0 {
		known = known[:20]
	}
	all := record{}
	for len(all) < many {
		x := announced(r.House, d.below(1000), known[d.below(len(known))])
		all[x.Range] = impl.Got{Route: x, Old: !r.Up || d.below(2) == 0}
	}
	return all.in(r)
}

func drawnRibs(d *draw, each int) []impl.Rib {
	var all []impl.Rib
	for many := range 7 {
		for range each {
			all = append(all, drawnRib(d, many))
		}
	}
	return all
}

// ribs are valid tables: with no to six routes, with the session up and down, with all routes stale, some and none.
func ribs() []impl.Rib {
	return slices.Concat(ladderRibs(3), drawnRibs(&draw{at: 21}, 20))
}

// fewRibs are some of them, for tests that try many other things with each.
func fewRibs() []impl.Rib {
	all := []impl.Rib{upRib(1), downRib(1), upRib(5), {House: 2, Up: true, All: []impl.Got{}}, {House: 4, All: []impl.Got{}}}
	for _, code := range []int{1, 2, 81, 162, 486, 4, 5, 8, 40, 80, 77, 364, 728, 363, 365, 485, 726, 243 + 2, 546, 607, 400} {
		r := ladderRib(3, code)
		all = append(all, r, downRib(3, marked(r, true).All...))
	}
	return append(all, drawnRibs(&draw{at: 22}, 3)...)
}

// nearPrefixes are those that a table has, with those that cover them and that they cover, and some others.
func nearPrefixes(r impl.Rib) []impl.Range {
	all := slices.Concat(askedPrefixes(), ladder())
	for _, g := range r.All {
		x := g.Route.Range
		all = append(all, x)
		if x.Bits < 8 {
			lower, upper := halvesOf(x)
			all = append(all, lower, upper)
		}
		if x.Bits > 0 {
			bits := x.Bits - 1
			all = append(all, impl.Range{First: x.First >> (8 - bits) << (8 - bits), Bits: bits})
		}
	}
	return all
}

// nearRoutes are routes to such prefixes, and to each that the table has with another path, preference or list of communities alone, and the same one.
func nearRoutes(r impl.Rib) []impl.Route {
	var all []impl.Route
	for i, x := range nearPrefixes(r) {
		all = append(all, announced(r.House, i+50, x))
	}
	for i, g := range r.All {
		path, like, more := g.Route, g.Route, g.Route
		path.Path = waysFrom(r.House)[(i*11+3)%65]
		like.Like = (like.Like + 1) % 10
		more.Marks = marksOf(setOf(more.Marks) ^ 1<<(1+i))
		all = append(all, g.Route, path, like, more)
	}
	return all
}

// notRoutesFrom are invalid routes that start with a system, as far as they have a path, and valid ones that start with another one.
func notRoutesFrom(house int) []impl.Route {
	all := []impl.Route{{}, {Range: quarter}, {Range: quarter, Path: []int{}, Like: 5, Marks: []int{2}}}
	base := impl.Route{Range: quarter, Path: []int{house}, Like: 5, Marks: []int{2, 7}}
	for _, x := range fewNotPrefixes() {
		bad := base
		bad.Range = x
		all = append(all, bad)
	}
	for _, like := range notLikes() {
		bad := base
		bad.Like = like
		all = append(all, bad)
	}
	for _, marks := range notMarkLists() {
		all = append(all, withMarks(base, marks))
	}
	ways := [][]int{{house, house}, {house, house%5 + 1, house}, {house, 0}, {house, 6}, {house, -1}, {house, 1, 2, 3, 4, 5}, {house, 8 + house}, make([]int, 5000), slices.Repeat([]int{house}, 5000)}
	for _, n := range extremes {
		ways = append(ways, []int{house, n}, []int{n, house})
	}
	for other := -1; other <= 9; other++ {
		if other != house {
			ways = append(ways, []int{other}, []int{other, house})
		}
	}
	for _, p := range ways {
		bad := base
		bad.Path = p
		all = append(all, bad)
	}
	return all
}

// notRibs are invalid tables of each kind.
func notRibs() []impl.Rib {
	var all []impl.Rib
	for _, up := range []bool{true, false} {
		for _, house := range notHouses() {
			// A path that starts with it is invalid, too, so an empty table shows the neighbor alone.
			all = append(all, impl.Rib{House: house, Up: up}, impl.Rib{House: house, Up: up, All: []impl.Got{stale(plainRoute(quarter, []int{3, 1}))}}, impl.Rib{House: house, Up: up, All: []impl.Got{stale(plainRoute(quarter, []int{house}))}})
		}
		for house := 1; house <= 5; house++ {
			for _, bad := range notRoutesFrom(house) {
				all = append(all, impl.Rib{House: house, Up: up, All: []impl.Got{stale(bad)}})
			}
		}
		for _, bad := range fewNotRoutes() {
			first, last := stale(announced(3, 1, everything)), stale(announced(3, 2, impl.Range{First: 255, Bits: 8}))
			all = append(all, impl.Rib{House: 3, Up: up, All: []impl.Got{first, stale(bad)}}, impl.Rib{House: 3, Up: up, All: []impl.Got{stale(bad), last}}, impl.Rib{House: 3, Up: up, All: []impl.Got{first, stale(bad), last}})
		}
		all = append(all, longRibs(up)...)
		all = append(all, unorderedRibs(up)...)
	}
	return append(all, hastyRibs()...)
}

// longRibs have one route more than a table may have, or many more.
func longRibs(up bool) []impl.Rib {
	var all []impl.Rib
	known := prefixes()
	for _, step := range []int{1, 3, 7, 70} {
		for _, many := range []int{7, 8} {
			r := impl.Rib{House: 3, Up: up}
			for i := range many {
				r.All = append(r.All, stale(announced(3, i, known[i*step])))
			}
			all = append(all, r, marked(r, !up))
		}
	}
	return append(all, impl.Rib{House: 3, Up: up, All: make([]impl.Got, 7)}, impl.Rib{House: 3, Up: up, All: make([]impl.Got, 5000)})
}

// unorderedRibs have prefixes in each order but the ascending one, or one of them twice.
func unorderedRibs(up bool) []impl.Rib {
	var all []impl.Rib
	for n := 2; n <= 4; n++ {
		for _, order := range ordersOf(n)[1:] {
			r := impl.Rib{House: 3, Up: up}
			for _, i := range order {
				r.All = append(r.All, stale(announced(3, i, ladder()[i])))
			}
			all = append(all, r, marked(r, !up))
		}
	}
	for code := 0; code < 729; code += 7 {
		r := marked(ladderRib(3, code), true)
		r.Up = up
		for i, g := range r.All[:min(len(r.All), 5)] {
			again, other := r, r
			again.All = slices.Insert(slices.Clone(r.All), i, g)
			other.All = append(slices.Clone(r.All), stale(announced(3, 9, g.Route.Range)))
			all = append(all, again, other)
			other = again
			other.All = slices.Clone(again.All)
			other.All[i] = stale(announced(3, 8, g.Route.Range))
			all = append(all, other)
		}
	}
	return slices.DeleteFunc(all, isRib)
}

// hastyRibs have a route that is not stale while the session is down.
func hastyRibs() []impl.Rib {
	var all []impl.Rib
	for code := range 729 {
		r := ladderRib(3, code)
		r.Up = false
		all = append(all, r)
	}
	return slices.DeleteFunc(all, isRib)
}

// fewNotRibs are of each kind, for tests that try many other things with each. What is told or withdrawn would repair some of them.
func fewNotRibs() []impl.Rib {
	x, y := announced(3, 1, quarter), announced(3, 2, impl.Range{First: 128, Bits: 1})
	all := []impl.Rib{
		{}, {Up: true}, {House: 6, Up: true}, {House: -1}, upRib(3, fresh(route(64, 2, nil, 5))), upRib(3, fresh(route(64, 2, []int{}, 5))), upRib(3, fresh(route(64, 2, []int{2, 3}, 5))),
		upRib(3, fresh(x), fresh(x)), upRib(3, stale(x), fresh(x)), upRib(3, fresh(y), fresh(x)), downRib(3, fresh(x)), downRib(3, stale(x), fresh(y)), downRib(3, fresh(x), stale(y)),
		upRib(2, fresh(x)), upRib(3, fresh(x), fresh(announced(2, 1, y.Range))), upRib(3, fresh(announced(1, 1, everything)), fresh(x)), downRib(1, stale(x)),
	}
	for _, bad := range fewNotRoutes() {
		all = append(all, upRib(3, fresh(bad)), downRib(3, stale(bad)), upRib(3, fresh(announced(3, 1, everything)), fresh(bad)))
	}
	return append(all, longRibs(true)...)
}

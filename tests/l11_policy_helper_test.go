package tests

import (
	"fmt"
	"slices"
	"strings"

	"loop.example/wayboard/impl"
)

// The expectations here compare texts of bits and sets of marks, so that they share no condition and no type switch with the program.

func leadingBits(r impl.Range) string {
	return fmt.Sprintf("%08b", r.First)[:r.Bits]
}

func within(n, low, high int) bool {
	return low <= n && n <= high
}

func isCondition(c impl.Clause) bool {
	if c.If == 2 {
		return isPrefix(c.Range) && c.N == 0
	}
	numbers := map[int][2]int{1: {0, 0}, 3: {1, 9}, 4: {1, 5}, 5: {1, 5}}
	limits, known := numbers[c.If]
	return known && c.Range == impl.Range{} && within(c.N, limits[0], limits[1])
}

func isClause(c impl.Clause) bool {
	return within(c.Like, -1, 9) && within(c.Mark, 0, 9) && within(c.Clear, 0, 9) && isCondition(c)
}

// matches needs a valid clause and a valid route.
func matches(c impl.Clause, r impl.Route) bool {
	switch c.If {
	case 2:
		return strings.HasPrefix(leadingBits(r.Range), leadingBits(c.Range))
	case 3:
		return setOf(r.Marks)>>c.N&1 == 1
	case 4:
		return strings.ContainsRune(textOf(r.Path), rune('0'+c.N))
	case 5:
		return len(r.Path) <= c.N
	}
	return true
}

func firstMatch(p []impl.Clause, r impl.Route) int {
	return slices.IndexFunc(p, func(c impl.Clause) bool { return matches(c, r) })
}

// outcome needs a policy and a valid route. Bit 0 of a set is no mark, so that a Mark or Clear of 0 changes nothing.
func outcome(p []impl.Clause, r impl.Route) (impl.Route, bool) {
	i := firstMatch(p, r)
	if i == -1 || p[i].Refuse {
		return impl.Route{}, false
	}
	if p[i].Like >= 0 {
		r.Like = p[i].Like
	}
	return withMarks(r, marksOf((setOf(r.Marks)|1<<p[i].Mark)&^(1<<p[i].Clear))), true
}

func sameOutcome(a impl.Route, aOk bool, b impl.Route, bOk bool) bool {
	return aOk == bOk && sameRoute(a, b)
}

func sameRoutes(a, b []impl.Route) bool {
	return slices.EqualFunc(a, b, sameRoute)
}

// onlyIf is a clause that changes nothing.
func onlyIf(kind, n int) impl.Clause {
	return impl.Clause{If: kind, N: n, Like: -1}
}

func onlyIn(first, bits int) impl.Clause {
	return impl.Clause{If: 2, Range: impl.Range{First: first, Bits: bits}, Like: -1}
}

func refuse(c impl.Clause) impl.Clause {
	c.Refuse = true
	return c
}

// then is a clause with what it does.
func then(c impl.Clause, like, mark, clear int) impl.Clause {
	c.Like, c.Mark, c.Clear = like, mark, clear
	return c
}

// conditions are all valid ones, in clauses that change nothing.
func conditions() []impl.Clause {
	all := []impl.Clause{onlyIf(1, 0)}
	for _, r := range prefixes() {
		all = append(all, onlyIn(r.First, r.Bits))
	}
	for n := 1; n <= 9; n++ {
		all = append(all, onlyIf(3, n))
	}
	for n := 1; n <= 5; n++ {
		all = append(all, onlyIf(4, n), onlyIf(5, n))
	}
	return all
}

func fewConditions() []impl.Clause {
	return []impl.Clause{
		onlyIf(1, 0), onlyIn(0, 0), onlyIn(0, 8), onlyIn(64, 2), onlyIn(96, 3), onlyIn(255, 8), onlyIf(3, 1), onlyIf(3, 2), onlyIf(3, 9),
		onlyIf(4, 1), onlyIf(4, 3), onlyIf(4, 5), onlyIf(5, 1), onlyIf(5, 2), onlyIf(5, 5),
	}
}

// stableConditions test nothing that a clause changes.
func stableConditions() []impl.Clause {
	return slices.DeleteFunc(fewConditions(), func(c impl.Clause) bool { return c.If == 3 })
}

// everyAction has each thing that a clause may do, under one condition.
func everyAction(c impl.Clause) []impl.Clause {
	var all []impl.Clause
	for like := -1; like <= 9; like++ {
		for mark := 0; mark <= 9; mark++ {
			for clear := 0; clear <= 9; clear++ {
				all = append(all, then(c, like, mark, clear), refuse(then(c, like, mark, clear)))
			}
		}
	}
	return all
}

func fewActions(c impl.Clause) []impl.Clause {
	return []impl.Clause{
		c, refuse(c), then(c, 0, 0, 0), then(c, 9, 0, 0), then(c, -1, 2, 0), then(c, -1, 0, 2), then(c, -1, 2, 2), then(c, 4, 9, 1), then(c, 9, 1, 9), refuse(then(c, 9, 1, 2)),
	}
}

func clauses() []impl.Clause {
	var all []impl.Clause
	for _, c := range fewConditions() {
		all = append(all, fewActions(c)...)
	}
	return all
}

func drawnClause(d *draw, from []impl.Clause) impl.Clause {
	c := then(from[d.below(len(from))], d.below(11)-1, d.below(10), d.below(10))
	c.Refuse = d.below(4) == 0
	return c
}

// drawnPolicies are of each length, some of each.
func drawnPolicies(d *draw, from []impl.Clause, some int) [][]impl.Clause {
	all := [][]impl.Clause{nil, {}}
	for n := 1; n <= 5; n++ {
		for range some {
			var p []impl.Clause
			for range n {
				p = append(p, drawnClause(d, from))
			}
			all = append(all, p)
		}
	}
	return all
}

// policies are none, each clause alone, all lists of two and three out of a few, and drawn ones.
func policies() [][]impl.Clause {
	var all [][]impl.Clause
	for _, c := range clauses() {
		all = append(all, []impl.Clause{c})
	}
	few := []impl.Clause{
		then(onlyIf(1, 0), 1, 1, 0), refuse(onlyIn(64, 2)), then(onlyIn(0, 1), 7, 2, 0), refuse(onlyIf(3, 2)), then(onlyIf(3, 9), 6, 0, 9), then(onlyIf(4, 3), -1, 3, 0), then(onlyIf(5, 1), 0, 0, 0),
	}
	for _, a := range few {
		for _, b := range few {
			all = append(all, []impl.Clause{a, b})
			for _, c := range few {
				all = append(all, []impl.Clause{a, b, c})
			}
		}
	}
	d := &draw{at: 11}
	all = append(all, drawnPolicies(d, fewConditions(), 100)...)
	return append(all, drawnPolicies(d, conditions(), 20)...)
}

// fewPolicies are of each length, for tests that try many other things with each.
func fewPolicies() [][]impl.Clause {
	var all [][]impl.Clause
	for _, c := range fewConditions() {
		all = append(all, []impl.Clause{then(c, 8, 4, 5)}, []impl.Clause{refuse(c), then(onlyIf(1, 0), -1, 5, 4)})
	}
	return append(all, drawnPolicies(&draw{at: 12}, fewConditions(), 12)...)
}

// policyRoutes are routes that the few conditions tell apart.
func policyRoutes() []impl.Route {
	var all []impl.Route
	for i, r := range bareRoutes() {
		all = append(all, r, withMarks(r, [][]int{{1}, {2}, {9}, {1, 2}, {3, 4, 5}, {1, 2, 3, 4, 5, 6, 7, 8, 9}}[i%6]))
	}
	return append(all, drawnRoutes(&draw{at: 13}, 60)...)
}

// fewRoutes are some of them, for tests that try many other things with each.
func fewRoutes() []impl.Route {
	return []impl.Route{
		route(64, 2, []int{3, 1}, 5), route(96, 3, []int{2}, 0, 1, 9), route(0, 0, []int{1, 2, 3, 4, 5}, 9, 1, 2, 3, 4, 5, 6, 7, 8, 9), route(0, 8, []int{5, 3, 1}, 3, 2), route(255, 8, []int{4}, 1, 4, 5),
	}
}

// policyLists are lists of routes of each length, with some routes repeated.
func policyLists() [][]impl.Route {
	few, d := fewRoutes(), &draw{at: 14}
	all := [][]impl.Route{nil, {}, few, policyRoutes(), slices.Repeat(few, 3), {few[0], few[0], few[0]}}
	for _, r := range few {
		all = append(all, []impl.Route{r})
	}
	for n := range 8 {
		all = append(all, drawnRoutes(d, n))
	}
	return all
}

// notKinds are numbers of no condition.
func notKinds() []int {
	return append([]int{-5, -4, -3, 0, 6, 7, 8, 9, 10, 11, 16, 17, 32, 33, 65, 66, 129}, extremes...)
}

// notClauses are valid clauses of each kind, with one field made invalid, for all kinds of that, or several.
func notClauses() []impl.Clause {
	all := []impl.Clause{{}, {Like: -1}, {If: 3}, {If: 4}, {If: 5}, {If: 3, Refuse: true, Like: -1}}
	add := func(c impl.Clause) {
		if !isClause(c) {
			all = append(all, c, refuse(c))
		}
	}
	for _, base := range []impl.Clause{onlyIf(1, 0), onlyIn(64, 2), onlyIn(0, 0), onlyIf(3, 7), onlyIf(4, 3), then(onlyIf(5, 2), 6, 1, 9)} {
		for _, n := range slices.Concat(extremes, notHouses(), notMarks(), notKinds(), []int{1, 2, 3, 4, 5}) {
			for field := range 5 {
				c := base
				*[]*int{&c.If, &c.N, &c.Like, &c.Mark, &c.Clear}[field] = n
				add(c)
			}
			add(impl.Clause{If: n, N: n, Range: impl.Range{First: n, Bits: n}, Like: n, Mark: n, Clear: n})
		}
		for i, r := range slices.Concat(notPrefixes(), prefixes()) {
			if base.If == 2 || i%5 == base.If%5 || r.Bits == 0 || r.First == 0 {
				c := base
				c.Range = r
				add(c)
			}
		}
	}
	return all
}

// fewNotClauses are of each kind, for tests that try many other things with each.
func fewNotClauses() []impl.Clause {
	all := []impl.Clause{
		{}, onlyIf(0, 0), onlyIf(-1, 0), onlyIf(6, 1), onlyIf(1, 1), onlyIf(1, -1), onlyIn(65, 2), onlyIn(0, 9), onlyIn(0, -1), onlyIn(-1, 8), onlyIn(256, 8),
		onlyIf(3, 0), onlyIf(3, -1), onlyIf(3, 10), onlyIf(4, 0), onlyIf(4, -1), onlyIf(4, 6), onlyIf(5, 0), onlyIf(5, -1), onlyIf(5, 6),
	}
	for _, kind := range []int{1, 3, 4, 5} {
		c := onlyIf(kind, min(kind-1, 1))
		for _, r := range []impl.Range{{First: 64, Bits: 2}, {First: 0, Bits: 1}, {First: 1, Bits: 0}} {
			c.Range = r
			all = append(all, c)
		}
	}
	numbered := onlyIn(64, 2)
	numbered.N = 1
	for _, c := range []impl.Clause{onlyIf(1, 0), onlyIn(64, 2), onlyIf(3, 2), onlyIf(4, 3), onlyIf(5, 5)} {
		all = append(all, then(c, -2, 0, 0), then(c, 10, 0, 0), then(c, -1, -1, 0), then(c, -1, 10, 0), then(c, -1, 0, -1), then(c, -1, 0, 10), refuse(then(c, 10, 0, 0)))
	}
	return append(all, numbered)
}

// notPolicies have an invalid clause somewhere, or too many clauses.
func notPolicies() [][]impl.Clause {
	all := [][]impl.Clause{slices.Repeat([]impl.Clause{onlyIf(1, 0)}, 6), slices.Repeat([]impl.Clause{refuse(onlyIf(4, 1))}, 7), slices.Repeat([]impl.Clause{onlyIf(1, 0)}, 3000), make([]impl.Clause, 5), make([]impl.Clause, 6)}
	d := &draw{at: 15}
	for _, bad := range fewNotClauses() {
		for n := range 5 {
			for i := range n + 1 {
				var p []impl.Clause
				for range n {
					p = append(p, drawnClause(d, fewConditions()))
				}
				all = append(all, slices.Insert(p, i, bad))
			}
		}
		all = append(all, []impl.Clause{onlyIf(1, 0), bad}, []impl.Clause{refuse(onlyIf(1, 0)), bad}, []impl.Clause{bad, onlyIf(1, 0)})
	}
	return all
}

package tests

import (
	"slices"
	"testing"

	"loop.example/wayboard/impl"
)

func TestP53InvalidClauses(t *testing.T) {
	for _, c := range slices.Concat(notClauses(), fewNotClauses()) {
		if isClause(c) || impl.ClauseOk(c) {
			t.Errorf("%v is no clause", c)
		}
	}
}

func TestP53ClausesMadeInvalid(t *testing.T) {
	for _, c := range slices.Concat(clauses(), conditions()) {
		var bad []impl.Clause
		for _, n := range notKinds() {
			unknown, disliked := c, then(c, n, c.Mark, c.Clear)
			unknown.If = n
			bad = append(bad, unknown)
			if n < -1 || n > 9 {
				bad = append(bad, disliked)
			}
		}
		for _, n := range []int{-1, 1, 2, 5, 9, 64} {
			if c.If <= 2 {
				numbered := c
				numbered.N = n
				bad = append(bad, numbered)
			}
		}
		for _, r := range []impl.Range{{First: 0, Bits: 1}, {First: 0, Bits: 8}, {First: 64, Bits: 2}, {First: 255, Bits: 8}, {First: 1, Bits: 0}, {First: -1, Bits: 0}, {First: 0, Bits: -1}} {
			if c.If != 2 {
				ranged := c
				ranged.Range = r
				bad = append(bad, ranged)
			}
		}
		for _, x := range bad {
			if impl.ClauseOk(x) {
				t.Errorf("%v is no clause", x)
			}
		}
	}
}

func TestP53OkAroundEachLimit(t *testing.T) {
	ranges := []impl.Range{{}, {First: 0, Bits: 1}, {First: 64, Bits: 2}, {First: 255, Bits: 8}, {First: 65, Bits: 2}, {First: 0, Bits: 9}, {First: 0, Bits: -1}, {First: 256, Bits: 8}}
	for kind := -1; kind <= 7; kind++ {
		for n := -2; n <= 11; n++ {
			for _, r := range ranges {
				for like := -3; like <= 11; like++ {
					for _, mark := range []int{-1, 0, 1, 9, 10} {
						for _, clear := range []int{-1, 0, 1, 9, 10} {
							c := impl.Clause{If: kind, N: n, Range: r, Refuse: n%2 == 0, Like: like, Mark: mark, Clear: clear}
							if got := impl.ClauseOk(c); got != isClause(c) {
								t.Fatalf("%v ok: %v", c, got)
							}
						}
					}
				}
			}
		}
	}
}

func TestP53EachPrefixOfEachKind(t *testing.T) {
	for _, r := range slices.Concat(prefixes(), notPrefixes()) {
		for _, c := range []impl.Clause{onlyIf(1, 0), onlyIn(0, 0), onlyIf(3, 1), onlyIf(4, 1), onlyIf(5, 1)} {
			c.Range = r
			if got := impl.ClauseOk(c); got != isClause(c) {
				t.Errorf("%v ok: %v", c, got)
			}
		}
	}
}

func TestP47InvalidFitsNothing(t *testing.T) {
	for _, c := range notClauses() {
		for _, r := range fewRoutes() {
			if impl.ClauseFits(c, r) {
				t.Errorf("%v fits %v", c, r)
			}
		}
	}
	for _, c := range fewConditions() {
		for _, r := range notRoutes() {
			if impl.ClauseFits(c, r) || impl.ClauseFits(refuse(c), r) {
				t.Errorf("%v fits %v", c, r)
			}
		}
	}
	for _, c := range fewNotClauses() {
		for _, r := range fewNotRoutes() {
			if impl.ClauseFits(c, r) {
				t.Errorf("%v fits %v", c, r)
			}
		}
	}
}

func TestP54InvalidPolicies(t *testing.T) {
	for _, p := range notPolicies() {
		if impl.PolicyOk(p) {
			t.Errorf("%v is no policy", p)
		}
	}
	for _, c := range notClauses() {
		for _, p := range [][]impl.Clause{{c}, {onlyIf(1, 0), c}, {c, onlyIf(1, 0)}} {
			if impl.PolicyOk(p) {
				t.Errorf("%v is no policy", p)
			}
		}
	}
}

func TestP54PoliciesMadeInvalid(t *testing.T) {
	few := fewNotClauses()
	for n, p := range policies() {
		for i := range len(p) + 1 {
			for j := n % 3; j < len(few); j += 3 {
				if bad := slices.Insert(slices.Clone(p), i, few[j]); impl.PolicyOk(bad) {
					t.Errorf("%v is no policy", bad)
				}
			}
		}
	}
}

// rejects checks that nothing comes of a policy and a route, alone or in a list.
func rejects(t *testing.T, p []impl.Clause, r impl.Route) {
	t.Helper()
	if got, ok := impl.PolicyDo(p, r); ok || !isZeroRoute(got) {
		t.Errorf("%v does with %v: %v %v", p, r, got, ok)
	}
	if got := impl.PolicyAll(p, []impl.Route{r}); len(got) != 0 {
		t.Errorf("%v makes of %v: %v", p, r, got)
	}
}

func TestP48P51InvalidPolicies(t *testing.T) {
	for _, p := range notPolicies() {
		for _, r := range fewRoutes() {
			rejects(t, p, r)
		}
		rejects(t, p, impl.Route{})
		for _, l := range [][]impl.Route{nil, {}, fewRoutes()} {
			if got := impl.PolicyAll(p, l); len(got) != 0 {
				t.Errorf("%v makes of %v: %v", p, l, got)
			}
		}
	}
	for _, c := range notClauses() {
		rejects(t, []impl.Clause{c}, fewRoutes()[0])
		rejects(t, []impl.Clause{onlyIf(1, 0), c}, fewRoutes()[0])
		rejects(t, []impl.Clause{c, onlyIf(1, 0)}, fewRoutes()[0])
	}
}

func TestP48P51InvalidRoutes(t *testing.T) {
	some := [][]impl.Clause{nil, {onlyIf(1, 0)}, {then(onlyIf(1, 0), 5, 1, 2)}, {onlyIn(0, 0)}, {onlyIf(3, 2)}, {onlyIf(4, 3)}, {onlyIf(5, 5)}, {refuse(onlyIf(5, 1)), then(onlyIf(1, 0), 0, 0, 0)}}
	for _, r := range slices.Concat(notRoutes(), fewNotRoutes()) {
		for _, p := range some {
			rejects(t, p, r)
		}
	}
	for _, r := range fewNotRoutes() {
		for _, p := range slices.Concat(fewPolicies(), notPolicies()[:20]) {
			rejects(t, p, r)
		}
	}
}

// Setting the preference or a mark must not repair a route.
func TestP48NoRepair(t *testing.T) {
	for _, c := range everyAction(onlyIf(1, 0)) {
		for _, r := range []impl.Route{route(64, 2, []int{3, 1}, -1, 2), route(64, 2, []int{3, 1}, 10, 2), route(64, 2, []int{3, 1}, 5, 2, 2), route(64, 2, []int{3, 1}, 5, 0), route(64, 2, []int{3, 1}, 5, 10)} {
			rejects(t, []impl.Clause{c}, r)
		}
	}
}

func TestP51OneInvalidRouteInAList(t *testing.T) {
	some := [][]impl.Clause{{onlyIf(1, 0)}, {then(onlyIf(1, 0), 5, 1, 2)}, {refuse(onlyIf(5, 1)), onlyIf(1, 0)}, {refuse(onlyIf(1, 0))}, nil}
	d := &draw{at: 53}
	for n := range 7 {
		l := drawnRoutes(d, n)
		for _, bad := range fewNotRoutes() {
			for i := range n + 1 {
				for _, p := range some {
					if got := impl.PolicyAll(p, slices.Insert(slices.Clone(l), i, bad)); len(got) != 0 {
						t.Errorf("%v makes of %d, with %v at %d: %v", p, n, bad, i, got)
					}
				}
			}
		}
	}
	for _, bad := range notRoutes() {
		for _, l := range [][]impl.Route{{bad, fewRoutes()[0]}, {fewRoutes()[0], bad}} {
			if got := impl.PolicyAll(some[0], l); len(got) != 0 {
				t.Errorf("of %v: %v", l, got)
			}
		}
	}
}

package tests

import (
	"slices"
	"testing"

	"loop.example/wayboard/impl"
)

func TestPolicyLimits(t *testing.T) {
	if impl.PolicyMax != 5 || impl.IfAll != 1 || impl.IfRange != 2 || impl.IfMark != 3 || impl.IfHouse != 4 || impl.IfShort != 5 {
		t.Error(impl.PolicyMax, impl.IfAll, impl.IfRange, impl.IfMark, impl.IfHouse, impl.IfShort)
	}
	valid := slices.Concat(conditions(), clauses())
	for _, c := range fewConditions() {
		valid = append(valid, everyAction(c)...)
	}
	for _, c := range valid {
		if !isClause(c) || !impl.ClauseOk(c) {
			t.Errorf("%v is a clause", c)
		}
	}
	for _, p := range slices.Concat(policies(), fewPolicies(), [][]impl.Clause{nil, {}}) {
		if !impl.PolicyOk(p) {
			t.Errorf("%v is a policy", p)
		}
	}
}

func TestP47Fits(t *testing.T) {
	routes := slices.Concat(variedRoutes(), policyRoutes())
	for _, c := range conditions() {
		for _, r := range routes {
			if got := impl.ClauseFits(c, r); got != matches(c, r) {
				t.Fatalf("%v fits %v: %v", c, r, got)
			}
		}
	}
}

func TestP47FitsOfSomeClauses(t *testing.T) {
	r := route(64, 2, []int{3, 1, 4}, 5, 2, 7)
	for _, c := range []struct {
		clause impl.Clause
		want   bool
	}{
		{onlyIf(1, 0), true}, {refuse(onlyIf(1, 0)), true},
		{onlyIn(64, 2), true}, {onlyIn(0, 0), true}, {onlyIn(0, 1), true}, {onlyIn(64, 3), false}, {onlyIn(96, 3), false}, {onlyIn(64, 8), false}, {onlyIn(0, 2), false}, {onlyIn(128, 1), false},
		{onlyIf(3, 2), true}, {onlyIf(3, 7), true}, {onlyIf(3, 1), false}, {onlyIf(3, 5), false}, {onlyIf(3, 3), false}, {onlyIf(3, 9), false},
		{onlyIf(4, 3), true}, {onlyIf(4, 1), true}, {onlyIf(4, 4), true}, {onlyIf(4, 2), false}, {onlyIf(4, 5), false},
		{onlyIf(5, 1), false}, {onlyIf(5, 2), false}, {onlyIf(5, 3), true}, {onlyIf(5, 4), true}, {onlyIf(5, 5), true},
	} {
		if got := impl.ClauseFits(c.clause, r); got != c.want {
			t.Errorf("%v fits %v: %v", c.clause, r, got)
		}
	}
}

func TestP47WhatIsDoneDoesNotMatter(t *testing.T) {
	for _, condition := range fewConditions() {
		for _, c := range everyAction(condition) {
			for _, r := range fewRoutes() {
				if got := impl.ClauseFits(c, r); got != matches(condition, r) {
					t.Fatalf("%v fits %v: %v", c, r, got)
				}
			}
		}
	}
}

func TestP48DoIsTheFirstMatch(t *testing.T) {
	routes := policyRoutes()
	for _, p := range policies() {
		for _, r := range routes {
			got, ok := impl.PolicyDo(p, r)
			if want, wantOk := outcome(p, r); !sameOutcome(got, ok, want, wantOk) {
				t.Fatalf("%v does with %v: %v %v, not %v %v", p, r, got, ok, want, wantOk)
			}
		}
	}
}

func TestP48EachAction(t *testing.T) {
	for _, condition := range []impl.Clause{onlyIf(1, 0), onlyIn(0, 1), onlyIf(3, 4), onlyIf(4, 3), onlyIf(5, 2)} {
		for _, c := range everyAction(condition) {
			for _, r := range fewRoutes() {
				got, ok := impl.PolicyDo([]impl.Clause{c}, r)
				if want, wantOk := outcome([]impl.Clause{c}, r); !sameOutcome(got, ok, want, wantOk) {
					t.Fatalf("%v does with %v: %v %v", c, r, got, ok)
				}
			}
		}
	}
}

func TestP48SomePolicies(t *testing.T) {
	r, all := route(64, 2, []int{3, 1}, 5, 2, 7), onlyIf(1, 0)
	for _, c := range []struct {
		p    []impl.Clause
		want string
	}{
		{nil, ""}, {[]impl.Clause{}, ""}, {[]impl.Clause{all}, "64/2 3-1 5 m27"}, {[]impl.Clause{refuse(all)}, ""}, {[]impl.Clause{refuse(then(all, 9, 1, 2))}, ""},
		{[]impl.Clause{then(all, 0, 0, 0)}, "64/2 3-1 0 m27"}, {[]impl.Clause{then(all, 9, 0, 0)}, "64/2 3-1 9 m27"},
		{[]impl.Clause{then(all, -1, 5, 0)}, "64/2 3-1 5 m257"}, {[]impl.Clause{then(all, -1, 7, 0)}, "64/2 3-1 5 m27"},
		{[]impl.Clause{then(all, -1, 0, 7)}, "64/2 3-1 5 m2"}, {[]impl.Clause{then(all, -1, 0, 5)}, "64/2 3-1 5 m27"},
		{[]impl.Clause{then(all, -1, 5, 5)}, "64/2 3-1 5 m27"}, {[]impl.Clause{then(all, -1, 7, 7)}, "64/2 3-1 5 m2"}, {[]impl.Clause{then(all, 1, 9, 2)}, "64/2 3-1 1 m79"},
		{[]impl.Clause{onlyIf(3, 1), onlyIf(4, 2), onlyIf(5, 1), onlyIn(96, 3)}, ""},
		{[]impl.Clause{onlyIf(3, 1), then(onlyIf(4, 3), 6, 0, 0), refuse(all)}, "64/2 3-1 6 m27"},
		{[]impl.Clause{refuse(onlyIf(3, 2)), all}, ""}, {[]impl.Clause{all, refuse(all)}, "64/2 3-1 5 m27"}, {[]impl.Clause{refuse(all), all}, ""},
		{[]impl.Clause{then(onlyIf(3, 2), -1, 1, 2), then(onlyIf(3, 1), 9, 0, 0), then(all, 8, 3, 0)}, "64/2 3-1 5 m17"},
		{[]impl.Clause{refuse(onlyIf(3, 1)), refuse(onlyIf(4, 2)), refuse(onlyIf(5, 1)), refuse(onlyIn(64, 3)), then(onlyIn(64, 2), 2, 0, 0)}, "64/2 3-1 2 m27"},
	} {
		got, ok := impl.PolicyDo(c.p, r)
		if text := impl.RouteText(got); text != c.want || ok != (c.want != "") {
			t.Errorf("%v does: %q %v, not %q", c.p, text, ok, c.want)
		}
	}
}

func TestP48NoClauseMatches(t *testing.T) {
	r, none := route(64, 2, []int{3, 1}, 5, 2, 7), []impl.Clause{onlyIn(65, 8), onlyIf(3, 3), onlyIf(4, 5), onlyIf(5, 1), onlyIn(0, 2)}
	for _, like := range []int{-1, 0, 9} {
		for n := range 6 {
			p := slices.Clone(none[:n])
			for i := range p {
				p[i] = then(p[i], like, i, 9-i)
			}
			if got, ok := impl.PolicyDo(p, r); ok || !isZeroRoute(got) {
				t.Errorf("%v does with %v: %v %v", p, r, got, ok)
			}
			if got := impl.PolicyAll(p, []impl.Route{r, r}); len(got) != 0 {
				t.Errorf("%v takes %v", p, got)
			}
		}
	}
}

func TestP49AcceptedRoutesAreValid(t *testing.T) {
	routes := policyRoutes()
	for _, p := range policies() {
		for _, r := range routes {
			got, ok := impl.PolicyDo(p, r)
			if ok && (got.Range != r.Range || !slices.Equal(got.Path, r.Path) || !isValidRoute(got) || !impl.RouteOk(got)) {
				t.Fatalf("%v makes %v of %v", p, got, r)
			}
			if !ok && !isZeroRoute(got) {
				t.Fatalf("%v rejects %v, but gives %v", p, r, got)
			}
		}
	}
}

func TestP50ClauseAppended(t *testing.T) {
	routes := append(fewRoutes(), drawnRoutes(&draw{at: 50}, 10)...)
	for _, p := range fewPolicies() {
		if len(p) == 5 {
			continue
		}
		for _, c := range clauses() {
			for _, r := range routes {
				want, wantOk := impl.PolicyDo([]impl.Clause{c}, r)
				if firstMatch(p, r) != -1 {
					want, wantOk = impl.PolicyDo(p, r)
				}
				if got, ok := impl.PolicyDo(append(slices.Clone(p), c), r); !sameOutcome(got, ok, want, wantOk) {
					t.Fatalf("%v and %v do with %v: %v %v, not %v %v", p, c, r, got, ok, want, wantOk)
				}
			}
		}
	}
}

func TestP51AllIsDoOfEach(t *testing.T) {
	lists := policyLists()
	for _, p := range policies() {
		for _, l := range lists {
			var done, wanted []impl.Route
			for _, r := range l {
				if x, ok := impl.PolicyDo(p, r); ok {
					done = append(done, x)
				}
				if x, ok := outcome(p, r); ok {
					wanted = append(wanted, x)
				}
			}
			if got := impl.PolicyAll(p, l); !sameRoutes(got, done) || !sameRoutes(got, wanted) {
				t.Fatalf("%v makes of %v: %v, not %v", p, l, got, wanted)
			}
		}
	}
}

// The accepted routes are at each set of places.
func TestP51SomeAccepted(t *testing.T) {
	p := []impl.Clause{refuse(onlyIf(3, 9)), then(onlyIf(5, 2), 7, 0, 1)}
	for set := range 64 {
		var l, want []impl.Route
		for i := range 6 {
			r := route(i*32, 3, []int{3, 1}, i, 1, 2)
			if set>>i&1 == 0 {
				l = append(l, withMarks(r, []int{1, 9}))
				continue
			}
			l = append(l, r)
			want = append(want, route(i*32, 3, []int{3, 1}, 7, 2))
		}
		if got := impl.PolicyAll(p, l); !sameRoutes(got, want) {
			t.Errorf("of %v: %v", l, got)
		}
	}
}

func TestP51LongLists(t *testing.T) {
	l := drawnRoutes(&draw{at: 51}, 3000)
	if got := impl.PolicyAll([]impl.Clause{onlyIf(1, 0)}, l); !sameRoutes(got, l) {
		t.Error("all are to be taken, and are", len(got))
	}
}

func TestP52NoClausesAndIdentity(t *testing.T) {
	for _, r := range slices.Concat(policyRoutes(), variedRoutes(), markedRoutes()) {
		for _, none := range [][]impl.Clause{nil, {}} {
			if got, ok := impl.PolicyDo(none, r); ok || !isZeroRoute(got) {
				t.Errorf("no clauses make of %v: %v %v", r, got, ok)
			}
		}
		if got, ok := impl.PolicyDo([]impl.Clause{onlyIf(1, 0)}, r); !ok || !sameRoute(got, r) {
			t.Errorf("identity makes of %v: %v %v", r, got, ok)
		}
	}
}

func TestP54PoliciesWithoutAClause(t *testing.T) {
	for _, p := range policies() {
		for i := range p {
			if shorter := slices.Delete(slices.Clone(p), i, i+1); !impl.PolicyOk(shorter) {
				t.Errorf("%v is a policy", shorter)
			}
		}
	}
}

func TestP54LengthOfPolicies(t *testing.T) {
	for _, c := range clauses() {
		for n := range 12 {
			if got := impl.PolicyOk(slices.Repeat([]impl.Clause{c}, n)); got != (n <= 5) {
				t.Errorf("%v, %d times: %v", c, n, got)
			}
		}
	}
}

func TestP55Twice(t *testing.T) {
	var stable [][]impl.Clause
	for _, c := range stableConditions() {
		for _, action := range everyAction(c) {
			stable = append(stable, []impl.Clause{action})
		}
	}
	routes := append(fewRoutes(), drawnRoutes(&draw{at: 55}, 5)...)
	for _, p := range append(stable, drawnPolicies(&draw{at: 56}, stableConditions(), 300)...) {
		for _, r := range routes {
			once, ok := impl.PolicyDo(p, r)
			if !ok {
				continue
			}
			if twice, ok := impl.PolicyDo(p, once); !ok || !sameRoute(twice, once) {
				t.Fatalf("%v makes of %v: %v, and then %v %v", p, r, once, twice, ok)
			}
		}
	}
}

func TestP56RejectingASystemFirst(t *testing.T) {
	routes := policyRoutes()
	for _, p := range fewPolicies() {
		if len(p) == 5 {
			continue
		}
		for house := 1; house <= 5; house++ {
			longer := append([]impl.Clause{refuse(onlyIf(4, house))}, p...)
			for _, r := range routes {
				want, wantOk := impl.PolicyDo(p, r)
				if slices.Contains(r.Path, house) {
					want, wantOk = impl.Route{}, false
				}
				if got, ok := impl.PolicyDo(longer, r); !sameOutcome(got, ok, want, wantOk) {
					t.Fatalf("%v does with %v: %v %v", longer, r, got, ok)
				}
			}
		}
	}
}

func TestP57HowManyAreTaken(t *testing.T) {
	nothing := [][]impl.Clause{nil, {}, {refuse(onlyIf(1, 0))}, {refuse(onlyIn(0, 0)), onlyIf(1, 0)}, {refuse(onlyIf(5, 5)), onlyIf(3, 2)}, {refuse(onlyIf(4, 1)), refuse(onlyIf(1, 0)), onlyIf(1, 0)}}
	everything := [][]impl.Clause{{onlyIf(1, 0)}, {onlyIn(0, 0)}, {onlyIf(5, 5)}, {onlyIf(4, 3), onlyIf(3, 2), onlyIf(1, 0), refuse(onlyIf(1, 0))}}
	for _, l := range policyLists() {
		for _, p := range nothing {
			if got := impl.PolicyAll(p, l); len(got) != 0 {
				t.Errorf("%v takes %v", p, got)
			}
		}
		for _, p := range everything {
			if got := impl.PolicyAll(p, l); !sameRoutes(got, l) {
				t.Errorf("%v makes of %v: %v", p, l, got)
			}
		}
		for _, p := range policies() {
			if got := impl.PolicyAll(p, l); len(got) > len(l) {
				t.Errorf("%v makes %d of %d", p, len(got), len(l))
			}
		}
	}
}

package tests

import (
	"slices"
	"testing"

	"loop.example/wayboard/impl"
)

// roomyPolicy has room behind its clauses, as a careless append would use.
func roomyPolicy(p []impl.Clause) []impl.Clause {
	return append(slices.Clone(p), onlyIf(4, 2), impl.Clause{})[:len(p)]
}

// roomyRoutes have room behind the list and behind the slices of each route.
func roomyRoutes(l []impl.Route) []impl.Route {
	out := make([]impl.Route, 0, len(l)+2)
	for _, r := range l {
		out = append(out, roomyRoute(r))
	}
	return append(out, route(0, 8, []int{2}, 1, 3), impl.Route{})[:len(l)]
}

// memoryOfAll is what a list holds, to the end of its capacity, and what its routes hold.
func memoryOfAll(l []impl.Route) ([]impl.Route, [][]int) {
	var memory [][]int
	for _, r := range l[:cap(l)] {
		memory = append(memory, memoryOf(r))
	}
	return deepRoutes(l[:cap(l)]), memory
}

func staysAs(l []impl.Route, kept []impl.Route, memory [][]int) bool {
	now, holds := memoryOfAll(l)
	return sameRoutes(now, kept) && slices.EqualFunc(holds, memory, slices.Equal)
}

// someActions take a route in each way: as it is, with another preference, with a mark that it has or lacks, without one, and several of these.
func someActions() [][]impl.Clause {
	var all [][]impl.Clause
	for _, c := range fewActions(onlyIf(1, 0)) {
		all = append(all, []impl.Clause{c})
	}
	return append(all, []impl.Clause{then(onlyIf(1, 0), -1, 7, 2)}, []impl.Clause{then(onlyIf(4, 1), 3, 5, 4), then(onlyIf(1, 0), -1, 3, 3)}, nil)
}

func TestP48DoIsNewMemory(t *testing.T) {
	given := slices.Concat(sharedRoutes(), fewNotRoutes())
	for _, r := range slices.Concat(bareRoutes(), markedRoutes(), closeRoutes(), fewNotRoutes()) {
		given = append(given, roomyRoute(r))
	}
	for _, p := range someActions() {
		for _, r := range given {
			kept := memoryOf(r)
			first, _ := impl.PolicyDo(p, r)
			second, _ := impl.PolicyDo(p, r)
			want := deepRoute(second)
			if !slices.Equal(memoryOf(r), kept) {
				t.Fatalf("%v, %v: the argument is changed", p, r)
			}
			scribblePath(first.Path)
			if !slices.Equal(first.Marks, want.Marks) {
				t.Fatalf("%v, %v: the path and the marks share memory", p, r)
			}
			scribblePath(first.Marks)
			if !slices.Equal(memoryOf(r), kept) || !sameRoute(second, want) {
				t.Fatalf("%v, %v: the result shares memory", p, r)
			}
		}
	}
}

func TestP48DoStaysWhenTheArgumentChanges(t *testing.T) {
	for _, p := range someActions() {
		for _, r := range slices.Concat(bareRoutes(), markedRoutes(), closeRoutes()) {
			given := roomyRoute(r)
			want, wantOk := outcome(p, r)
			got, ok := impl.PolicyDo(p, given)
			scribblePath(given.Path)
			scribblePath(given.Marks)
			if !sameOutcome(got, ok, want, wantOk) {
				t.Fatalf("%v does with %v: %v %v", p, r, got, ok)
			}
		}
	}
}

func TestP51AllIsNewMemory(t *testing.T) {
	one := roomyRoute(route(64, 2, []int{3, 1}, 5, 2, 7))
	lists := [][]impl.Route{sharedRoutes(), {one, one, one}, {one, {}, one}}
	for _, l := range policyLists() {
		lists = append(lists, roomyRoutes(l))
	}
	for _, p := range append(someActions(), []impl.Clause{refuse(onlyIf(5, 1)), onlyIf(1, 0)}) {
		for _, l := range lists {
			kept, memory := memoryOfAll(l)
			first, second := impl.PolicyAll(p, l), impl.PolicyAll(p, l)
			want := deepRoutes(second)
			if !staysAs(l, kept, memory) {
				t.Fatalf("%v, %v: the argument is changed", p, l)
			}
			for i := range first {
				scribblePath(first[i].Path)
				if !slices.Equal(first[i].Marks, want[i].Marks) {
					t.Fatalf("%v, %v: the path and the marks share memory", p, l)
				}
				scribblePath(first[i].Marks)
				if !sameRoutes(first[i+1:], want[i+1:]) {
					t.Fatalf("%v, %v: two routes share memory", p, l)
				}
			}
			clear(first[:cap(first)])
			if !staysAs(l, kept, memory) || !sameRoutes(second, want) {
				t.Fatalf("%v, %v: the result shares memory", p, l)
			}
		}
	}
}

func TestP47P48P51P54PoliciesStay(t *testing.T) {
	for _, p := range slices.Concat(policies(), notPolicies()) {
		given := roomyPolicy(p)
		kept := slices.Clone(given[:cap(given)])
		impl.PolicyOk(given)
		for _, r := range append(fewRoutes(), impl.Route{}) {
			impl.PolicyDo(given, r)
		}
		impl.PolicyAll(given, fewRoutes())
		if !slices.Equal(given[:cap(given)], kept) {
			t.Errorf("%v is changed: %v", p, given)
		}
	}
}

func TestP47FitsChangesNoRoute(t *testing.T) {
	for _, c := range append(fewConditions(), fewNotClauses()...) {
		for _, r := range slices.Concat(policyRoutes(), fewNotRoutes()) {
			given := roomyRoute(r)
			kept := memoryOf(given)
			impl.ClauseFits(c, given)
			if !slices.Equal(memoryOf(given), kept) || !sameRoute(given, r) {
				t.Errorf("%v fits %v: the argument is changed", c, r)
			}
		}
	}
}

// What a policy does depends neither on the room behind its clauses nor on that behind the slices of a route.
func TestP48P51RoomDoesNotMatter(t *testing.T) {
	for _, p := range fewPolicies() {
		for _, r := range policyRoutes() {
			want, wantOk := outcome(p, r)
			if got, ok := impl.PolicyDo(roomyPolicy(p), roomyRoute(r)); !sameOutcome(got, ok, want, wantOk) {
				t.Errorf("%v does with %v: %v %v", p, r, got, ok)
			}
		}
		for _, l := range policyLists() {
			if got := impl.PolicyAll(roomyPolicy(p), roomyRoutes(l)); !sameRoutes(got, impl.PolicyAll(p, l)) {
				t.Errorf("%v makes of %v: %v", p, l, got)
			}
		}
	}
}

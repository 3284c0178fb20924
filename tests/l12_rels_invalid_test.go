package tests

import (
	"slices"
	"testing"

	"loop.example/wayboard/impl"
)

func TestP63InvalidMatrices(t *testing.T) {
	for _, m := range notNets() {
		if isNet(m) || impl.RelsOk(m) {
			t.Errorf("%v is no relation matrix", m)
		}
	}
}

// refusesRels checks that every function takes a matrix for invalid.
func refusesRels(t *testing.T, m [][]int) {
	t.Helper()
	if order, ok := impl.RelsOrder(m); ok || len(order) != 0 || impl.RelsFree(m) || impl.RelsOk(m) {
		t.Errorf("%v: ok %v, free %v, order %v %v", m, impl.RelsOk(m), impl.RelsFree(m), order, ok)
	}
	for a := 0; a <= 6; a++ {
		for b := 0; b <= 6; b++ {
			if got := impl.RelOf(m, a, b); got != impl.RelNone {
				t.Errorf("%v: %d is to %d: %d", m, b, a, got)
			}
			for _, of := range []int{0, a, b, 1, 2, 5} {
				if impl.RelMay(m, a, of, b) {
					t.Errorf("%v: %d exports from %d to %d", m, a, of, b)
				}
			}
		}
	}
}

func TestP58P59P61P62InvalidMatrices(t *testing.T) {
	for i, m := range notElements() {
		if i%7 == 0 || len(m) < 4 {
			refusesRels(t, m)
		}
	}
	for _, m := range notSizes() {
		refusesRels(t, m)
	}
}

func TestP63ASingleElementChanged(t *testing.T) {
	for _, m := range slices.Concat(smallNets(), largeNets(5003)) {
		for i := range m {
			for j := range m {
				for rel := -1; rel <= 4; rel++ {
					if rel != m[i][j] && impl.RelsOk(withElement(m, i, j, rel)) {
						t.Fatalf("%v with %d at %d, %d", m, rel, i, j)
					}
				}
			}
		}
	}
}

func TestP63ARelationToItself(t *testing.T) {
	for _, m := range nets() {
		for i := range m {
			for rel := 1; rel <= 3; rel++ {
				if impl.RelsOk(withElement(m, i, i, rel)) {
					t.Fatalf("%v with %d to itself: %d", m, i+1, rel)
				}
			}
		}
	}
	for n := 1; n <= 5; n++ {
		for rel := 1; rel <= 3; rel++ {
			m := allPeers(n)
			for i := range m {
				m[i][i] = rel
			}
			refusesRels(t, m)
		}
	}
}

// matrices are all of a size with elements from a range.
func matrices(n, low, high int) func(yield func([][]int) bool) {
	return func(yield func([][]int) bool) {
		many := 1
		for range n * n {
			many *= high - low + 1
		}
		for code := range many {
			m := bare(n)
			for place := range n * n {
				m[place/n][place%n] = low + code%(high-low+1)
				code /= high - low + 1
			}
			if !yield(m) {
				return
			}
		}
	}
}

func TestP63EachSmallMatrix(t *testing.T) {
	for _, c := range []struct{ n, low, high, valid int }{{1, -9, 9, 1}, {2, -2, 5, 4}, {3, 0, 3, 64}} {
		valid := 0
		for m := range matrices(c.n, c.low, c.high) {
			got := impl.RelsOk(m)
			if got != isNet(m) {
				t.Fatalf("%v ok: %v", m, got)
			}
			if got {
				valid++
			}
		}
		if valid != c.valid {
			t.Errorf("valid matrices of %d systems: %d", c.n, valid)
		}
	}
}

// Two systems that are customers of each other are no valid matrix, and so are neither free nor in an order.
func TestP61P62P63CustomersOfEachOther(t *testing.T) {
	for n := 2; n <= 5; n++ {
		for i := range n {
			for j := range n {
				for rel := 1; rel <= 3; rel += 2 {
					if i != j {
						m := bare(n)
						m[i][j], m[j][i] = rel, rel
						refusesRels(t, m)
					}
				}
			}
		}
	}
}

// All elements but those of one pair are right, so that only both sides of this pair tell.
func TestP63OneSideOfAPair(t *testing.T) {
	valid := [][2]int{{0, 0}, {1, 3}, {2, 2}, {3, 1}}
	for _, base := range [][][]int{bare(5), allPeers(5), net(5, "1>2", "2>3", "3>4", "4>5"), net(5, "2>1", "2=3", "3>4", "5>3", "1=4")} {
		for i := range 5 {
			for j := range i {
				for there := -1; there <= 4; there++ {
					for back := -1; back <= 4; back++ {
						m := withElement(base, i, j, there)
						m[j][i] = back
						if got := impl.RelsOk(m); got != slices.Contains(valid, [2]int{there, back}) {
							t.Errorf("%v ok: %v", m, got)
						}
					}
				}
			}
		}
	}
}

func TestP58NoSystems(t *testing.T) {
	for _, m := range fewNets() {
		none := notSystems(m)
		for _, bad := range none {
			for other := 1; other <= len(m); other++ {
				if impl.RelOf(m, bad, other) != impl.RelNone || impl.RelOf(m, other, bad) != impl.RelNone {
					t.Fatalf("%v: %d and %d", m, bad, other)
				}
			}
			if impl.RelOf(m, bad, bad) != impl.RelNone || impl.RelOf(m, bad, none[0]) != impl.RelNone || impl.RelOf(m, bad, 0) != impl.RelNone {
				t.Fatalf("%v: %d", m, bad)
			}
		}
	}
}

func TestP59P64NoSystems(t *testing.T) {
	for _, m := range fewNets() {
		for _, bad := range notSystems(m) {
			for a := 0; a <= len(m); a++ {
				for b := 0; b <= len(m); b++ {
					if impl.RelMay(m, bad, a, b) || impl.RelMay(m, a, b, bad) {
						t.Fatalf("%v: %d exports, or to it, with %d and %d", m, bad, a, b)
					}
					// A route of 0 is the system's own; one of any other number is of no system.
					if bad != 0 && impl.RelMay(m, a, bad, b) {
						t.Fatalf("%v: %d exports from %d to %d", m, a, bad, b)
					}
				}
			}
			if impl.RelMay(m, bad, bad, bad) {
				t.Fatalf("%v: %d exports to itself", m, bad)
			}
		}
	}
}

// To a customer every route is exported, but not one of a system that the matrix does not have.
func TestP64NoRouteOfASystemBehindTheLast(t *testing.T) {
	for n := 2; n <= 5; n++ {
		m := net(n, "1>2")
		for of := -1; of <= 7; of++ {
			if got := impl.RelMay(m, 1, of, 2); got != (0 <= of && of <= n) {
				t.Errorf("%d systems, from %d: %v", n, of, got)
			}
		}
	}
}

package tests

import "slices"

// The expectations here read the matrix itself, follow customers step by step, and try all orders, so that they share no map and no order of steps with the program.

// net has the relations that a text names: "1>2" makes 2 a customer of 1, and "1=2" makes them peers.
func net(n int, links ...string) [][]int {
	m := bare(n)
	for _, link := range links {
		a, b := int(link[0]-'1'), int(link[2]-'1')
		if link[1] == '>' {
			m[a][b], m[b][a] = 1, 3
		} else {
			m[a][b], m[b][a] = 2, 2
		}
	}
	return m
}

// bare has no relations. Its rows have no room behind them.
func bare(n int) [][]int {
	m := make([][]int, n)
	for i := range m {
		m[i] = make([]int, n)
	}
	return m
}

func allPeers(n int) [][]int {
	m := bare(n)
	for i := range m {
		for j := range m {
			if i != j {
				m[i][j] = 2
			}
		}
	}
	return m
}

// deepRels are as many rows of memory of their own, with nothing behind them.
func deepRels(m [][]int) [][]int {
	var out [][]int
	for _, row := range m {
		out = append(out, slices.Clip(slices.Clone(row)))
	}
	return slices.Clip(out)
}

func sameRels(a, b [][]int) bool {
	return slices.EqualFunc(a, b, slices.Equal)
}

// withElement is a matrix with one element changed.
func withElement(m [][]int, i, j, rel int) [][]int {
	out := deepRels(m)
	out[i][j] = rel
	return out
}

// withRow is a matrix with one row changed.
func withRow(m [][]int, i int, row []int) [][]int {
	out := deepRels(m)
	out[i] = row
	return out
}

// without the last system, as far as the matrix tells.
func withoutLast(m [][]int) [][]int {
	var out [][]int
	for _, row := range m[:len(m)-1] {
		out = append(out, slices.Clone(row[:len(m)-1]))
	}
	return out
}

// netOfCode has the relation of each pair of systems as a digit of a number, of base 4.
func netOfCode(n, code int) [][]int {
	m := bare(n)
	for i := range m {
		for j := range i {
			m[i][j] = code % 4
			m[j][i] = []int{0, 3, 2, 1}[code%4]
			code /= 4
		}
	}
	return m
}

// smallNets are all valid matrices of up to four systems.
func smallNets() [][][]int {
	var all [][][]int
	for n, many := range []int{1, 4, 64, 4096} {
		for code := range many {
			all = append(all, netOfCode(n+1, code))
		}
	}
	return all
}

// largeNets are some of the valid matrices of five systems. As the step is odd, each relation of each pair is among them.
func largeNets(step int) [][][]int {
	var all [][][]int
	for code := 0; code < 1<<20; code += step {
		all = append(all, netOfCode(5, code))
	}
	return all
}

// shapedNet is a matrix whose order, or that it has none, is known by hand.
type shapedNet struct {
	name  string
	rels  [][]int
	order []int
}

func shapedNets() []shapedNet {
	return []shapedNet{
		{"one system", net(1), []int{1}},
		{"no relations", net(5), []int{1, 2, 3, 4, 5}},
		{"chain down", net(3, "1>2", "2>3"), []int{3, 2, 1}},
		{"chain up", net(3, "2>1", "3>2"), []int{1, 2, 3}},
		{"long chain down", net(5, "1>2", "2>3", "3>4", "4>5"), []int{5, 4, 3, 2, 1}},
		{"long chain up", net(5, "2>1", "3>2", "4>3", "5>4"), []int{1, 2, 3, 4, 5}},
		{"chain across", net(5, "3>1", "1>5", "5>2", "2>4"), []int{4, 2, 5, 1, 3}},
		{"tree below 1", net(5, "1>2", "1>3", "2>4", "2>5"), []int{3, 4, 5, 2, 1}},
		{"tree below 5", net(5, "5>4", "5>3", "4>2", "4>1"), []int{1, 2, 3, 4, 5}},
		{"star below 3", net(5, "3>1", "3>2", "3>4", "3>5"), []int{1, 2, 4, 5, 3}},
		{"star below 1", net(5, "1>2", "1>3", "1>4", "1>5"), []int{2, 3, 4, 5, 1}},
		{"two providers", net(3, "1>3", "2>3"), []int{3, 1, 2}},
		{"four providers", net(5, "1>3", "2>3", "4>3", "5>3"), []int{3, 1, 2, 4, 5}},
		{"diamond", net(4, "1>2", "1>3", "2>4", "3>4"), []int{4, 2, 3, 1}},
		{"customer directly and through another", net(3, "1>2", "2>3", "1>3"), []int{3, 2, 1}},
		{"each a customer of all smaller ones", net(5, "1>2", "1>3", "1>4", "1>5", "2>3", "2>4", "2>5", "3>4", "3>5", "4>5"), []int{5, 4, 3, 2, 1}},
		{"each a customer of all greater ones", net(5, "2>1", "3>1", "4>1", "5>1", "3>2", "4>2", "5>2", "4>3", "5>3", "5>4"), []int{1, 2, 3, 4, 5}},
		{"a freed smaller one goes ahead of greater ones", net(5, "1>4", "2>5"), []int{3, 4, 1, 5, 2}},
		{"a freed smaller one goes ahead, twice", net(5, "1>3", "3>4", "2>5"), []int{4, 3, 1, 5, 2}},
		{"two chains", net(4, "1>3", "2>4"), []int{3, 1, 4, 2}},
		{"two peers", net(2, "1=2"), []int{1, 2}},
		{"peers that sell", net(5, "1=2", "1>3", "2>4", "3=4", "3>5", "4>5"), []int{5, 3, 1, 4, 2}},
		{"all kinds", net(5, "2>1", "2=3", "3>4", "5>3", "1=4"), []int{1, 2, 4, 3, 5}},
		{"ring over a peer", net(3, "1>2", "2>3", "3=1"), []int{3, 2, 1}},
		{"ring of peers", net(3, "1=2", "2=3", "3=1"), []int{1, 2, 3}},
		{"ring over two peers", net(5, "1>2", "2=3", "3>4", "4=5", "5>1"), []int{2, 1, 4, 3, 5}},
		{"ring of relations, not all in one direction", net(3, "1>2", "1>3", "3>2"), []int{2, 3, 1}},
		{"ring of three", net(3, "1>2", "2>3", "3>1"), nil},
		{"ring of three, the other way", net(3, "2>1", "3>2", "1>3"), nil},
		{"ring of three among five", net(5, "2>4", "4>5", "5>2"), nil},
		{"ring of three with a provider", net(4, "4>1", "1>2", "2>3", "3>1"), nil},
		{"ring of three with a customer", net(4, "1>2", "2>3", "3>1", "1>4"), nil},
		{"ring of three behind a chain", net(5, "1>2", "2>3", "3>4", "4>5", "5>3"), nil},
		{"ring of three with peers", net(5, "1>2", "2>3", "3>1", "4=5", "1=4"), nil},
		{"ring of four", net(4, "1>2", "2>3", "3>4", "4>1"), nil},
		{"ring of four among five", net(5, "1>3", "3>5", "5>2", "2>1", "4=1"), nil},
		{"ring of all", net(5, "1>2", "2>3", "3>4", "4>5", "5>1"), nil},
		{"ring of all, across", net(5, "1>3", "3>5", "5>2", "2>4", "4>1"), nil},
		{"two rings", net(5, "1>2", "2>3", "3>1", "3>4", "4>5", "5>3"), nil},
		{"all peers of two", allPeers(2), []int{1, 2}},
		{"all peers of five", allPeers(5), []int{1, 2, 3, 4, 5}},
	}
}

// nets are valid matrices of each number of systems.
func nets() [][][]int {
	all := append(smallNets(), largeNets(1031)...)
	for _, s := range shapedNets() {
		all = append(all, s.rels)
	}
	return all
}

// fewNets are some of them, for tests that try many other things with each.
func fewNets() [][][]int {
	all := append(smallNets()[:69], largeNets(20011)...)
	for _, s := range shapedNets() {
		all = append(all, s.rels)
	}
	return all
}

// isNet reads each pair of elements, in both directions.
func isNet(m [][]int) bool {
	for _, row := range m {
		if len(row) != len(m) {
			return false
		}
	}
	for i := range m {
		for j := range m {
			both := [2]int{m[i][j], m[j][i]}
			if i == j && m[i][j] != 0 || !slices.Contains([][2]int{{0, 0}, {1, 3}, {2, 2}, {3, 1}}, both) {
				return false
			}
		}
	}
	return within(len(m), 1, 5)
}

// exports follows the document's sentence, over a valid matrix and systems of it, or 0 for the own route.
func exports(m [][]int, house, of, to int) bool {
	neighbor := m[house-1][to-1] != 0
	toCustomer := m[house-1][to-1] == 1
	ofCustomer := of != 0 && m[house-1][of-1] == 1
	return neighbor && (of == 0 || ofCustomer || toCustomer)
}

// below are the systems that are, directly or indirectly, customers of one.
func below(m [][]int, house int) []int {
	var found []int
	next := []int{house}
	for len(next) > 0 {
		at := next[0]
		next = next[1:]
		for b := 1; b <= len(m); b++ {
			if m[at-1][b-1] == 1 && !slices.Contains(found, b) {
				found = append(found, b)
				next = append(next, b)
			}
		}
	}
	return found
}

// inRings are the systems that are indirectly customers of themselves.
func inRings(m [][]int) []int {
	var found []int
	for a := 1; a <= len(m); a++ {
		if slices.Contains(below(m, a), a) {
			found = append(found, a)
		}
	}
	return found
}

// customersFirst tells whether each customer stands ahead of its providers.
func customersFirst(m [][]int, order []int) bool {
	for i, provider := range order {
		for _, later := range order[i+1:] {
			if m[provider-1][later-1] == 1 {
				return false
			}
		}
	}
	return true
}

// ordersOf are all orders of systems, as in a dictionary.
func ordersOf(n int) [][]int {
	var all [][]int
	for _, p := range paths() {
		if len(p) == n && slices.Max(p) == n {
			all = append(all, p)
		}
	}
	return all
}

// firstOrder is the first of all orders in which customers come first: as always the smallest system that may come next is taken, no other order stands ahead of it.
func firstOrder(m [][]int, orders [][]int) []int {
	for _, order := range orders {
		if customersFirst(m, order) {
			return order
		}
	}
	return nil
}

// allOrders are those of each number of systems.
func allOrders() [][][]int {
	all := make([][][]int, 6)
	for n := 1; n <= 5; n++ {
		all[n] = ordersOf(n)
	}
	return all
}

// notRels are numbers of no relation, among them those whose low bits look like one.
func notRels() []int {
	return append([]int{-5, -4, -3, 4, 5, 6, 7, 8, 16, 17, 18, 19, 32, 33, 65, 66, 67}, extremes...)
}

// notSystems are numbers of no system of a matrix, among them those of systems that other matrices have.
func notSystems(m [][]int) []int {
	all := notHouses()
	for n := len(m) + 1; n <= 5; n++ {
		all = append(all, n)
	}
	return all
}

// notSizes have too few or too many rows, or rows that are not as long as there are rows.
func notSizes() [][][]int {
	all := [][][]int{nil, {}, {nil}, {{}}, bare(6), allPeers(6), net(6, "1>2", "2>3", "3>4", "4>5", "5>6"), bare(7), bare(64), make([][]int, 5), make([][]int, 3000), slices.Repeat([][]int{{0}}, 3000)}
	for _, m := range [][][]int{bare(1), bare(2), bare(3), bare(4), bare(5), allPeers(2), allPeers(5), net(3, "1>2", "2>3"), net(5, "2>1", "2=3", "3>4", "5>3", "1=4")} {
		n := len(m)
		for i := range m {
			for _, row := range [][]int{nil, {}, m[i][:n-1], append(slices.Clone(m[i]), 0), append(slices.Clone(m[i]), 2), append([]int{0}, m[i]...), make([]int, n*n), make([]int, 5000)} {
				if len(row) != n {
					all = append(all, withRow(m, i, row))
				}
			}
		}
		// All rows are of one length, but there are more or fewer of them.
		all = append(all, append(deepRels(m), make([]int, n)))
		var wider [][]int
		for _, row := range m {
			wider = append(wider, append(slices.Clone(row), 0))
		}
		all = append(all, wider)
		if n > 1 {
			all = append(all, deepRels(m)[:n-1], deepRels(m)[1:])
		}
	}
	return all
}

// notElements have an element that is no relation, that the other side does not have, or has differently, or that is a system's to itself.
func notElements() [][][]int {
	var all [][][]int
	for _, m := range append(fewNets(), bare(2), bare(3), bare(4)) {
		for i := range m {
			for j := range m {
				for rel := range 4 {
					if rel != m[i][j] {
						all = append(all, withElement(m, i, j, rel))
					}
				}
			}
		}
	}
	for _, m := range [][][]int{bare(1), bare(2), bare(5), allPeers(5), net(2, "1>2"), net(3, "1>2", "2>3"), net(5, "2>1", "2=3", "3>4", "5>3", "1=4")} {
		for i := range m {
			for j := range m {
				for _, bad := range notRels() {
					both := withElement(m, i, j, bad)
					both[j][i] = bad
					all = append(all, withElement(m, i, j, bad), both)
				}
			}
		}
	}
	for _, bad := range notRels() {
		all = append(all, [][]int{{0, bad}, {4 - bad, 0}}, [][]int{{0, bad}, {-bad, 0}}, [][]int{{bad, bad}, {bad, bad}})
	}
	return all
}

// notNets are invalid matrices of each kind.
func notNets() [][][]int {
	return append(notSizes(), notElements()...)
}

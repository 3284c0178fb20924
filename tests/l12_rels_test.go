package tests

import (
	"slices"
	"testing"

	"loop.example/wayboard/impl"
)

func TestRelsLimits(t *testing.T) {
	if impl.RelNone != 0 || impl.RelCustomer != 1 || impl.RelPeer != 2 || impl.RelProvider != 3 || impl.HouseMax != 5 {
		t.Error(impl.RelNone, impl.RelCustomer, impl.RelPeer, impl.RelProvider, impl.HouseMax)
	}
	for _, m := range slices.Concat(nets(), fewNets()) {
		if !isNet(m) || !impl.RelsOk(m) {
			t.Errorf("%v is a relation matrix", m)
		}
	}
	for n := range 8 {
		if got, peers := impl.RelsOk(bare(n)), impl.RelsOk(allPeers(n)); got != (1 <= n && n <= 5) || peers != got {
			t.Errorf("%d systems: %v %v", n, got, peers)
		}
	}
}

func TestP58OfIsTheElement(t *testing.T) {
	for _, m := range nets() {
		for a := 1; a <= len(m); a++ {
			for b := 1; b <= len(m); b++ {
				if got := impl.RelOf(m, a, b); got != m[a-1][b-1] {
					t.Fatalf("%v: %d is to %d: %d", m, b, a, got)
				}
			}
		}
	}
}

func TestP58OfInTheReverseDirection(t *testing.T) {
	reverse := map[int]int{impl.RelNone: impl.RelNone, impl.RelCustomer: impl.RelProvider, impl.RelPeer: impl.RelPeer, impl.RelProvider: impl.RelCustomer}
	for _, m := range nets() {
		for a := 1; a <= len(m); a++ {
			if got := impl.RelOf(m, a, a); got != impl.RelNone {
				t.Fatalf("%v: %d is to itself: %d", m, a, got)
			}
			for b := 1; b <= len(m); b++ {
				if there, back := impl.RelOf(m, a, b), impl.RelOf(m, b, a); back != reverse[there] {
					t.Fatalf("%v: %d is to %d: %d, and back: %d", m, b, a, there, back)
				}
			}
		}
	}
}

func TestP58OfSomeSystems(t *testing.T) {
	m := net(5, "1>2", "3>1", "1=4")
	for _, c := range [][3]int{
		{1, 2, impl.RelCustomer}, {2, 1, impl.RelProvider}, {1, 3, impl.RelProvider}, {3, 1, impl.RelCustomer}, {1, 4, impl.RelPeer}, {4, 1, impl.RelPeer},
		{1, 5, impl.RelNone}, {5, 1, impl.RelNone}, {2, 3, impl.RelNone}, {3, 2, impl.RelNone}, {1, 1, impl.RelNone}, {5, 5, impl.RelNone},
	} {
		if got := impl.RelOf(m, c[0], c[1]); got != c[2] {
			t.Errorf("%d is to %d: %d", c[1], c[0], got)
		}
	}
}

func TestP59MayIsAsTheDocumentSays(t *testing.T) {
	for _, m := range nets() {
		for house := 1; house <= len(m); house++ {
			for of := 0; of <= len(m); of++ {
				for to := 1; to <= len(m); to++ {
					if got := impl.RelMay(m, house, of, to); got != exports(m, house, of, to) {
						t.Fatalf("%v: %d exports from %d to %d: %v", m, house, of, to, got)
					}
				}
			}
		}
	}
}

func TestP59MayOnlyToANeighborForAReason(t *testing.T) {
	for _, m := range nets() {
		for house := 1; house <= len(m); house++ {
			for of := 0; of <= len(m); of++ {
				for to := 1; to <= len(m); to++ {
					toRel, ofRel := impl.RelOf(m, house, to), impl.RelOf(m, house, of)
					if impl.RelMay(m, house, of, to) && (toRel == impl.RelNone || of != 0 && ofRel != impl.RelCustomer && toRel != impl.RelCustomer) {
						t.Fatalf("%v: %d exports from %d to %d", m, house, of, to)
					}
				}
			}
		}
	}
}

// System 1 has each relation to 2, from which it has the route, and to 3.
func TestP59MayForEachTwoRelations(t *testing.T) {
	want := map[int][4]bool{
		impl.RelNone:     {false, true, false, false},
		impl.RelCustomer: {false, true, true, true},
		impl.RelPeer:     {false, true, false, false},
		impl.RelProvider: {false, true, false, false},
	}
	back := []int{0, 3, 2, 1}
	for of := range 4 {
		for to := range 4 {
			m := [][]int{{0, of, to}, {back[of], 0, 0}, {back[to], 0, 0}}
			if got := impl.RelMay(m, 1, 2, 3); got != want[of][to] {
				t.Errorf("from relation %d to relation %d: %v", of, to, got)
			}
			if got := impl.RelMay(m, 1, 0, 3); got != (to != impl.RelNone) {
				t.Errorf("the own route to relation %d: %v", to, got)
			}
			if got := impl.RelMay(m, 1, 3, 3); got != (to == impl.RelCustomer) {
				t.Errorf("from and to one system of relation %d: %v", to, got)
			}
			if got := impl.RelMay(m, 1, 1, 3); got != (to == impl.RelCustomer) {
				t.Errorf("from itself to relation %d: %v", to, got)
			}
			if impl.RelMay(m, 1, 2, 1) || impl.RelMay(m, 1, 0, 1) || impl.RelMay(m, 1, 1, 1) {
				t.Errorf("to itself, from relation %d", of)
			}
		}
	}
}

func TestP60NoValley(t *testing.T) {
	up := []int{impl.RelPeer, impl.RelProvider}
	for _, m := range nets() {
		for house := 1; house <= len(m); house++ {
			for of := 1; of <= len(m); of++ {
				for to := 1; to <= len(m); to++ {
					if slices.Contains(up, m[house-1][of-1]) && slices.Contains(up, m[house-1][to-1]) && impl.RelMay(m, house, of, to) {
						t.Fatalf("%v: %d exports from %d to %d", m, house, of, to)
					}
				}
			}
		}
	}
}

func TestP61OrderOfSomeNets(t *testing.T) {
	for _, s := range shapedNets() {
		got, ok := impl.RelsOrder(s.rels)
		if !slices.Equal(got, s.order) || ok != (s.order != nil) {
			t.Errorf("%s: %v %v, not %v", s.name, got, ok, s.order)
		}
		if free := impl.RelsFree(s.rels); free != (s.order != nil) {
			t.Errorf("%s: free: %v", s.name, free)
		}
	}
}

func TestP61OrderIsTheFirstOfAll(t *testing.T) {
	orders := allOrders()
	for _, m := range slices.Concat(nets(), largeNets(53)) {
		want := firstOrder(m, orders[len(m)])
		got, ok := impl.RelsOrder(m)
		if !slices.Equal(got, want) || ok != (want != nil) {
			t.Fatalf("%v: %v %v, not %v", m, got, ok, want)
		}
	}
}

func TestP61OrderHasEachSystemAfterItsCustomers(t *testing.T) {
	for _, m := range slices.Concat(nets(), largeNets(59)) {
		order, ok := impl.RelsOrder(m)
		if free := impl.RelsFree(m); ok != free {
			t.Fatalf("%v: order: %v, free: %v", m, ok, free)
		}
		if !ok {
			if len(order) != 0 {
				t.Fatalf("%v: no order, but %v", m, order)
			}
			continue
		}
		if !isPath(order) || len(order) != len(m) || slices.Max(order) != len(m) || !customersFirst(m, order) {
			t.Fatalf("%v: %v", m, order)
		}
	}
}

func TestP62FreeIfNoSystemIsItsOwnCustomer(t *testing.T) {
	free, not := 0, 0
	for _, m := range slices.Concat(nets(), largeNets(61)) {
		rings := inRings(m)
		got := impl.RelsFree(m)
		if got != (len(rings) == 0) {
			t.Fatalf("%v free: %v, but its own customers are %v", m, got, rings)
		}
		if got {
			free++
		} else {
			not++
		}
	}
	if free < 1000 || not < 1000 {
		t.Error("free ones and others:", free, not)
	}
}

// Every ring of three, four or five systems, alone and with one link turned round or made one of peers.
func TestP62EachRing(t *testing.T) {
	for _, ring := range paths() {
		if len(ring) < 3 {
			continue
		}
		for turned := range len(ring) {
			whole, open, peered := bare(5), bare(5), bare(5)
			for i, a := range ring {
				b := ring[(i+1)%len(ring)]
				whole[a-1][b-1], whole[b-1][a-1] = 1, 3
				open[a-1][b-1], open[b-1][a-1] = 1, 3
				peered[a-1][b-1], peered[b-1][a-1] = 1, 3
				if i == turned {
					open[a-1][b-1], open[b-1][a-1] = 3, 1
					peered[a-1][b-1], peered[b-1][a-1] = 2, 2
				}
			}
			if impl.RelsFree(whole) || !impl.RelsFree(open) || !impl.RelsFree(peered) {
				t.Errorf("ring %v, %d turned: %v %v %v", ring, turned, impl.RelsFree(whole), impl.RelsFree(open), impl.RelsFree(peered))
			}
		}
	}
}

func TestP64MayToACustomerAndToNoNeighbor(t *testing.T) {
	for _, m := range nets() {
		for house := 1; house <= len(m); house++ {
			for to := 1; to <= len(m); to++ {
				for of := 0; of <= len(m); of++ {
					got := impl.RelMay(m, house, of, to)
					if rel := m[house-1][to-1]; rel == impl.RelCustomer && !got || rel == impl.RelNone && got {
						t.Fatalf("%v: %d exports from %d to %d: %v", m, house, of, to, got)
					}
				}
			}
		}
	}
}

func TestP65FreeWithoutTheLastSystem(t *testing.T) {
	for _, m := range slices.Concat(nets(), largeNets(67)) {
		if len(m) > 1 && impl.RelsFree(m) && !impl.RelsFree(withoutLast(m)) {
			t.Fatalf("%v is free, but not without the last", m)
		}
	}
	// The last system may be what closes a ring.
	if m := net(3, "1>2", "2>3", "3>1"); impl.RelsFree(m) || !impl.RelsFree(withoutLast(m)) {
		t.Error("ring that the last system closes")
	}
	if m := net(4, "1>2", "2>3", "3>1"); impl.RelsFree(m) || impl.RelsFree(withoutLast(m)) {
		t.Error("ring without the last system")
	}
}

func TestP66AllPeers(t *testing.T) {
	for n := 1; n <= 5; n++ {
		m := allPeers(n)
		order, ok := impl.RelsOrder(m)
		if !impl.RelsFree(m) || !ok || !slices.Equal(order, []int{1, 2, 3, 4, 5}[:n]) {
			t.Errorf("%d peers: %v %v", n, order, ok)
		}
		for a := 1; a <= n; a++ {
			for b := 1; b <= n; b++ {
				if a != b && (impl.RelOf(m, a, b) != impl.RelPeer || !impl.RelMay(m, a, 0, b)) {
					t.Errorf("%d peers: %d and %d", n, a, b)
				}
			}
		}
	}
}

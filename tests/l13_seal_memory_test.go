package tests

import (
	"slices"
	"testing"

	"loop.example/wayboard/impl"
)

// roomyHolds have room behind the list, as a careless append would use.
func roomyHolds(l []impl.Hold) []impl.Hold {
	return append(slices.Clone(l), hold(1, 0, 0), hold(2, 0, 0), hold(3, 0, 0), hold(4, 0, 0), hold(5, 0, 0))[:len(l)]
}

// roomySeals have room behind the list and behind the path of each seal. The room has the seals that more brings, which are not in the list.
func roomySeals(l []impl.Seal, more ...impl.Seal) []impl.Seal {
	out := make([]impl.Seal, 0, len(l)+len(more)+1)
	for _, s := range append(slices.Clone(l), more...) {
		s.Path = roomyPath(s.Path)
		out = append(out, s)
	}
	return append(out, impl.Seal{})[:len(l)]
}

func deepSeals(l []impl.Seal) []impl.Seal {
	out := slices.Clone(l)
	for i := range out {
		out[i].Path = slices.Clone(out[i].Path)
	}
	return out
}

// memoryOfSeals are the seals to the end of the list's capacity, each with its path to the end of that.
func memoryOfSeals(l []impl.Seal) []impl.Seal {
	out := slices.Clone(l[:cap(l)])
	for i, s := range out {
		out[i].Path = slices.Clone(s.Path[:cap(s.Path)])
	}
	return out
}

// sharedTolds have all slices in one array, which must not become one for those of the result.
func sharedTolds() []told {
	l := []int{1, 2, 3, 4, 5}
	return []told{
		{impl.Route{Path: l[:2], Like: 1, Marks: l[:2]}, 3}, {impl.Route{Path: l[:3], Like: 1, Marks: l[3:5]}, 5}, {impl.Route{Path: l[:4], Like: 1, Marks: l}, 5}, {impl.Route{Path: l[1:], Like: 1, Marks: l[:0]}, 1},
	}
}

func roomyTolds() []told {
	all := sharedTolds()
	for _, x := range slices.Concat(tolds(quarter), fewTolds()) {
		all = append(all, told{roomyRoute(x.route), x.to})
	}
	return all
}

func TestP68MakeIsNewMemory(t *testing.T) {
	for _, x := range roomyTolds() {
		kept := memoryOf(x.route)
		first, second := impl.SealMake(x.route, x.to), impl.SealMake(x.route, x.to)
		want := deepSeals(second)
		if !slices.Equal(memoryOf(x.route), kept) {
			t.Fatalf("%v to %d: the argument is changed", x.route, x.to)
		}
		for i := range first {
			scribblePath(first[i].Path)
			if !sameSeals(first[i+1:], want[i+1:]) {
				t.Fatalf("%v to %d: two seals share memory", x.route, x.to)
			}
		}
		clear(first[:cap(first)])
		if !slices.Equal(memoryOf(x.route), kept) || !sameSeals(second, want) {
			t.Fatalf("%v to %d: the result shares memory", x.route, x.to)
		}
		// From the last seal to the first one, as the room behind one path may be another path.
		for i := range slices.Backward(second) {
			scribblePath(second[i].Path)
			if !sameSeals(second[:i], want[:i]) {
				t.Fatalf("%v to %d: two seals share memory", x.route, x.to)
			}
		}
		if again := impl.SealMake(x.route, x.to); !sameSeals(again, want) {
			t.Fatalf("%v to %d: a result is kept: %v", x.route, x.to, again)
		}
	}
}

func TestP68SealsStayWhenTheArgumentChanges(t *testing.T) {
	for _, x := range append(tolds(quarter), fewTolds()...) {
		given := roomyRoute(x.route)
		got := impl.SealMake(given, x.to)
		scribblePath(given.Path)
		scribblePath(given.Marks)
		if !sameSeals(got, x.seals()) {
			t.Fatalf("%v to %d: %v", x.route, x.to, got)
		}
	}
}

func TestP68InvalidArgumentsStay(t *testing.T) {
	for _, r := range slices.Concat(notRoutes(), fewNotRoutes()) {
		given := roomyRoute(r)
		kept := memoryOf(given)
		impl.SealMake(given, 4)
		impl.SealLacks(allHold(), nil, given, 4)
		if !slices.Equal(memoryOf(given), kept) {
			t.Errorf("%v is changed: %v", r, given)
		}
	}
}

func TestP67P69P70ArgumentsStay(t *testing.T) {
	lists, bad := holdLists(), notSeals()
	for i, x := range roomyTolds() {
		for _, some := range [][]impl.Seal{x.seals(), x.seals()[1:], slices.Concat(bad[i%40:i%40+9], x.seals(), x.seals())} {
			holds, l, asked := roomyHolds(lists[i%len(lists)]), roomySeals(some), roomySeals(x.seals())[0]
			keptHolds, keptSeals, keptRoute, keptPath := slices.Clone(holds[:cap(holds)]), memoryOfSeals(l), memoryOf(x.route), slices.Clone(asked.Path[:cap(asked.Path)])
			impl.HoldHas(holds, x.origin(), x.route.Range)
			impl.SealHas(l, asked)
			impl.SealLacks(holds, l, x.route, x.to)
			impl.SealOk(roomyHolds(allHold()), l, x.route, x.to)
			if !slices.Equal(holds[:cap(holds)], keptHolds) || !sameSeals(memoryOfSeals(l), keptSeals) || !slices.Equal(memoryOf(x.route), keptRoute) || !slices.Equal(asked.Path[:cap(asked.Path)], keptPath) {
				t.Fatalf("%v to %d with %v: an argument is changed", x.route, x.to, some)
			}
		}
	}
}

// What stands behind a list or behind a path, to the end of its capacity, is not in it.
func TestP67P69P70RoomDoesNotMatter(t *testing.T) {
	for _, x := range append(tolds(quarter), fewTolds()...) {
		r, l := roomyRoute(x.route), x.seals()
		lacks(t, roomyHolds(nil), l, told{r, x.to}, -1)
		for i, s := range l {
			given := roomySeals(l[:i], l[i:]...)
			if impl.SealHas(given, s) || !impl.SealHas(roomySeals(l), roomySeals(l)[i]) {
				t.Fatalf("%v with room behind it: %v", l, s)
			}
			lacks(t, roomyHolds(allHold()), given, told{r, x.to}, s.By)
		}
		lacks(t, roomyHolds(allHold()), roomySeals(l), told{r, x.to}, 0)
	}
	for _, l := range holdLists() {
		for _, asked := range askedPrefixes() {
			if impl.HoldHas(roomyHolds(l), 3, asked) != isHeld(l, 3, asked) {
				t.Errorf("%v with room behind it: %v", l, asked)
			}
		}
	}
}

// A call changes nothing for a later one: neither seals nor holdings are kept.
func TestP67P69P70NoStateIsKept(t *testing.T) {
	for _, x := range append(tolds(quarter), fewTolds()...) {
		l, holds := x.seals(), holdBy(x.origin(), x.route.Range)
		lacks(t, holds, nil, x, x.route.Path[0])
		lacks(t, holds, l, x, 0)
		lacks(t, holds, nil, x, x.route.Path[0])
		lacks(t, nil, l, x, -1)
		if !impl.SealHas(l, l[0]) || impl.SealHas(nil, l[0]) || !impl.HoldHas(holds, x.origin(), x.route.Range) || impl.HoldHas(nil, x.origin(), x.route.Range) {
			t.Errorf("%v to %d: something is kept", x.route, x.to)
		}
	}
}

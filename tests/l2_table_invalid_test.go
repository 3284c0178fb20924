package tests

import (
	"slices"
	"testing"

	"loop.example/wayboard/impl"
)

func TestP15P21NoTables(t *testing.T) {
	for _, l := range notTables() {
		if isTable(l) || impl.TableOk(l) {
			t.Errorf("%v is no table", l)
		}
		for _, addr := range []int{0, 1, 64, 77, 255, -1, 256} {
			if got := impl.TableFind(l, addr); got != 0 {
				t.Errorf("%v at %d: %d", l, addr, got)
			}
		}
	}
}

func TestP16P18NoTables(t *testing.T) {
	for _, l := range notTables() {
		// An entry that would replace the fault does not repair the table.
		for _, e := range append([]impl.Entry{entry(0, 0, 1), entry(77, 8, 9), entry(0, 0, 0)}, l[:1]...) {
			if got, ok := impl.TablePut(l, e); ok || len(got) != 0 {
				t.Errorf("put %v to %v: %v %v", e, l, got, ok)
			}
			if got, ok := impl.TableDrop(l, e.Range); ok || len(got) != 0 {
				t.Errorf("drop %v from %v: %v %v", e.Range, l, got, ok)
			}
		}
	}
}

func TestP19P20NoTables(t *testing.T) {
	for _, l := range notTables() {
		if got := impl.TableLess(l); len(got) != 0 {
			t.Errorf("less of %v: %v", l, got)
		}
		if impl.TableSame(l, l) || impl.TableSame(l, nil) || impl.TableSame(nil, l) || impl.TableSame(l, beside(3)) || impl.TableSame(beside(3), l) {
			t.Errorf("%v is no table and the same as nothing", l)
		}
	}
}

// Invalid arguments are checked first, so that a full table is not returned with an invalid entry, nor one without the prefix.
func TestP16P18NoEntries(t *testing.T) {
	for _, l := range [][]impl.Entry{nil, {}, {entry(64, 2, 1)}, chain(0), beside(12)} {
		for _, e := range notEntries() {
			if got, ok := impl.TablePut(l, e); ok || len(got) != 0 {
				t.Errorf("put %v to %v: %v %v", e, l, got, ok)
			}
		}
		for _, r := range notPrefixes() {
			if got, ok := impl.TableDrop(l, r); ok || len(got) != 0 {
				t.Errorf("drop %v from %v: %v %v", r, l, got, ok)
			}
		}
	}
}

// roomy is a table with room behind it, as a careless append or insertion would use.
func roomy(l []impl.Entry) []impl.Entry {
	room := append(slices.Clone(l), slices.Repeat([]impl.Entry{entry(3, 4, 5)}, 5)...)
	return room[:len(l)]
}

func scribble(l []impl.Entry) {
	l = l[:cap(l)]
	for i := range l {
		l[i] = entry(-7, -7, -7)
	}
}

// tableCalls are all calls that return a table, by each of their outcomes.
func tableCalls(l []impl.Entry) []func([]impl.Entry) []impl.Entry {
	all := []func([]impl.Entry) []impl.Entry{impl.TableLess}
	for _, e := range append(someEntries(l), entry(64, 1, 1), entry(0, 0, 10)) {
		all = append(all, func(x []impl.Entry) []impl.Entry {
			got, _ := impl.TablePut(x, e)
			return got
		}, func(x []impl.Entry) []impl.Entry {
			got, _ := impl.TableDrop(x, e.Range)
			return got
		})
	}
	return all
}

func TestP16P18P20ResultsAreNewMemory(t *testing.T) {
	for _, l := range slices.Concat(fewTables(), notTables()[:14]) {
		for i, call := range tableCalls(l) {
			given := roomy(l)
			all := given[:cap(given)]
			kept := slices.Clone(all)
			first, second := call(given), call(given)
			want := slices.Clone(first)
			if !slices.Equal(all, kept) {
				t.Fatalf("call %d changes %v: %v", i, kept, all)
			}
			scribble(first)
			if !slices.Equal(all, kept) || !slices.Equal(second, want) {
				t.Fatalf("call %d for %v: the result shares memory", i, l)
			}
			scribble(given)
			if !slices.Equal(second, want) {
				t.Fatalf("call %d for %v: the argument shares memory", i, l)
			}
		}
	}
}

func TestP15P19ArgumentsStay(t *testing.T) {
	for _, l := range slices.Concat(fewTables(), notTables()) {
		a, b := roomy(l), roomy(l)
		impl.TableOk(a)
		impl.TableSame(a, b)
		impl.TableSame(a, a)
		for _, addr := range []int{-1, 0, 77, 255, 256} {
			impl.TableFind(a, addr)
		}
		want := roomy(l)
		if !slices.Equal(a[:len(l)+5], want[:len(l)+5]) || !slices.Equal(b[:len(l)+5], want[:len(l)+5]) {
			t.Errorf("%v is changed: %v %v", l, a, b)
		}
	}
}

// What a table is does not depend on the room behind it.
func TestP15P19RoomDoesNotMatter(t *testing.T) {
	for _, l := range fewTables() {
		if x := roomy(l); !impl.TableOk(x) || finds(x) != finds(l) || !impl.TableSame(x, l) || !slices.Equal(impl.TableLess(x), impl.TableLess(l)) {
			t.Errorf("%v with room behind it", l)
		}
	}
}

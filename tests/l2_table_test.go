package tests

import (
	"slices"
	"testing"

	"loop.example/wayboard/impl"
)

// put is TablePut where it must succeed.
func put(t *testing.T, l []impl.Entry, added ...impl.Entry) []impl.Entry {
	t.Helper()
	for _, e := range added {
		next, ok := impl.TablePut(l, e)
		if !ok {
			t.Fatalf("put %v to %v: %v", e, l, next)
		}
		l = next
	}
	return l
}

// drop is TableDrop where it must succeed.
func drop(t *testing.T, l []impl.Entry, r impl.Range) []impl.Entry {
	t.Helper()
	next, ok := impl.TableDrop(l, r)
	if !ok {
		t.Fatalf("drop %v from %v: %v", r, l, next)
	}
	return next
}

func finds(l []impl.Entry) [256]int {
	var all [256]int
	for addr := range all {
		all[addr] = impl.TableFind(l, addr)
	}
	return all
}

func TestTableLimits(t *testing.T) {
	if impl.TableMax != 12 || impl.ViaMax != 9 {
		t.Error(impl.TableMax, impl.ViaMax)
	}
	for _, l := range tables() {
		if !isTable(l) || !impl.TableOk(l) {
			t.Errorf("%v is a table", l)
		}
	}
	for via := 1; via <= 9; via++ {
		if !impl.TableOk([]impl.Entry{entry(64, 2, via)}) {
			t.Errorf("next hop %d", via)
		}
	}
}

func TestP15FindTheLongest(t *testing.T) {
	for _, l := range tables() {
		if finds(l) != nextHops(l) {
			t.Errorf("%v: %v", l, finds(l))
		}
		for _, addr := range extremes {
			if got := impl.TableFind(l, addr); got != 0 {
				t.Errorf("%v at %d: %d", l, addr, got)
			}
		}
	}
}

func TestP15FindInNested(t *testing.T) {
	l := []impl.Entry{entry(64, 2, 1), entry(64, 3, 2), entry(72, 5, 3), entry(77, 8, 4), entry(78, 7, 5), entry(128, 8, 6)}
	for addr, want := range map[int]int{0: 0, 63: 0, 64: 2, 71: 2, 72: 3, 76: 3, 77: 4, 78: 5, 79: 5, 80: 2, 95: 2, 96: 1, 127: 1, 128: 6, 129: 0, 255: 0, -1: 0, 256: 0, 256 + 77: 0} {
		if got := impl.TableFind(l, addr); got != want {
			t.Errorf("at %d: %d, not %d", addr, got, want)
		}
	}
	for addr := 0; addr <= 255; addr++ {
		if impl.TableFind(nil, addr) != 0 || impl.TableFind([]impl.Entry{}, addr) != 0 {
			t.Errorf("empty table at %d", addr)
		}
	}
}

func TestP16PutAppliesWhereNoLongerOne(t *testing.T) {
	for _, l := range fewTables() {
		old := finds(l)
		for _, e := range someEntries(l) {
			got, ok := impl.TablePut(l, e)
			if !ok {
				continue
			}
			for addr, via := range finds(got) {
				want := old[addr]
				longer := func(x impl.Entry) bool { return covers(x.Range, addr) && x.Range.Bits > e.Range.Bits }
				if covers(e.Range, addr) && !slices.ContainsFunc(l, longer) {
					want = e.Via
				}
				if via != want {
					t.Errorf("%v with %v at %d: %d, not %d", l, e, addr, via, want)
				}
			}
		}
	}
}

func TestP16PutOnlyIfThereIsSpace(t *testing.T) {
	for _, l := range fewTables() {
		for _, e := range someEntries(l) {
			want := with(l, e)
			wantOk := len(want) <= 12
			if !wantOk {
				want = l
			}
			got, ok := impl.TablePut(l, e)
			if ok != wantOk || !slices.Equal(got, want) {
				t.Errorf("put %v to %v: %v %v", e, l, got, ok)
			}
		}
	}
	if got, ok := impl.TablePut(beside(11), entry(240, 4, 1)); !ok || len(got) != 12 {
		t.Error("a twelfth entry:", got)
	}
	if got, ok := impl.TablePut(beside(12), entry(240, 4, 1)); ok || !slices.Equal(got, beside(12)) {
		t.Error("a thirteenth entry:", got, ok)
	}
	if got, ok := impl.TablePut(beside(12), entry(16, 4, 8)); !ok || len(got) != 12 || got[1] != entry(16, 4, 8) {
		t.Error("an entry replaced in a full table:", got, ok)
	}
}

func TestP17PutInEitherOrder(t *testing.T) {
	for _, l := range fewTables() {
		some := someEntries(l)
		for i, a := range some {
			b := some[(i+3)%len(some)]
			if len(with(l, a, b)) > 12 {
				continue
			}
			first := put(t, l, a, b)
			if a.Range == b.Range {
				if !slices.Equal(first, put(t, l, b)) || first[place(first, b.Range)] != b {
					t.Errorf("%v: %v and then %v: %v", l, a, b, first)
				}
			} else if second := put(t, l, b, a); !slices.Equal(first, second) {
				t.Errorf("%v: %v and %v: %v %v", l, a, b, first, second)
			}
		}
		for _, e := range l {
			x, y := impl.Entry{Range: e.Range, Via: 4}, impl.Entry{Range: e.Range, Via: 5}
			if got := put(t, l, x, y); !slices.Equal(got, put(t, l, y)) || got[place(got, e.Range)].Via != 5 {
				t.Errorf("%v: %v and then %v: %v", l, x, y, got)
			}
		}
	}
}

func TestP17PutAllInAnyOrder(t *testing.T) {
	for _, l := range tables() {
		up, down := []impl.Entry{}, []impl.Entry{}
		for i, e := range l {
			up, down = put(t, up, e), put(t, down, l[len(l)-1-i])
		}
		if !slices.Equal(up, l) || !slices.Equal(down, l) {
			t.Errorf("%v: %v %v", l, up, down)
		}
	}
}

func TestP18DropAndPutAgain(t *testing.T) {
	for _, l := range tables() {
		for i, e := range l {
			got := drop(t, l, e.Range)
			if !slices.Equal(got, without(l, i)) {
				t.Errorf("drop %v from %v: %v", e.Range, l, got)
			}
			if again := put(t, got, e); !slices.Equal(again, l) {
				t.Errorf("drop and put %v: %v, not %v", e, again, l)
			}
			if twice, ok := impl.TableDrop(got, e.Range); ok || !slices.Equal(twice, got) {
				t.Errorf("drop %v twice from %v: %v %v", e.Range, l, twice, ok)
			}
		}
	}
}

func TestP18DropOfWhatIsNotThere(t *testing.T) {
	for _, l := range append(fullTables(), nil, []impl.Entry{}, chain(0), chain(77), []impl.Entry{entry(64, 2, 1)}) {
		for _, r := range prefixes() {
			got, ok := impl.TableDrop(l, r)
			if i := place(l, r); i < 0 && (ok || !slices.Equal(got, l)) {
				t.Errorf("drop %v from %v: %v %v", r, l, got, ok)
			}
		}
	}
}

func TestP19SameIfEveryAddressIs(t *testing.T) {
	all := tables()
	hops := make([][256]int, len(all))
	for i, l := range all {
		hops[i] = nextHops(l)
	}
	for i, a := range all {
		for j := i % 7; j < len(all); j += 7 {
			if got := impl.TableSame(a, all[j]); got != (hops[i] == hops[j]) {
				t.Errorf("%v same as %v: %v", a, all[j], got)
			}
		}
		if !impl.TableSame(a, a) {
			t.Errorf("%v is not the same as itself", a)
		}
	}
	if !impl.TableSame(nil, []impl.Entry{}) || !impl.TableSame([]impl.Entry{}, nil) || !impl.TableSame(nil, nil) {
		t.Error("empty tables")
	}
}

func TestP19SameSeesEachAddress(t *testing.T) {
	for _, l := range [][]impl.Entry{nil, {entry(0, 0, 2)}, {entry(0, 1, 2), entry(128, 1, 2)}} {
		for addr := 0; addr <= 255; addr++ {
			other, same := put(t, l, entry(addr, 8, 1)), put(t, l, entry(addr, 8, 2))
			if impl.TableSame(l, other) || impl.TableSame(other, l) {
				t.Errorf("%v with another next hop at %d", l, addr)
			}
			if l != nil && (!impl.TableSame(l, same) || !impl.TableSame(same, l)) {
				t.Errorf("%v with the same next hop at %d", l, addr)
			}
		}
	}
}

func TestP20LessHasNothingToRemove(t *testing.T) {
	for _, l := range tables() {
		got := impl.TableLess(l)
		if !slices.Equal(got, lessOf(l)) {
			t.Errorf("less of %v: %v, not %v", l, got, lessOf(l))
		}
		for _, e := range got {
			if !slices.Contains(l, e) {
				t.Errorf("less of %v: %v", l, e)
			}
		}
		if !impl.TableOk(got) || !impl.TableSame(l, got) {
			t.Errorf("less of %v is not the same: %v", l, got)
		}
		for i := range got {
			if impl.TableSame(got, without(got, i)) {
				t.Errorf("less of %v: %v still has %v", l, got, got[i])
			}
		}
		if again := impl.TableLess(got); !slices.Equal(again, got) {
			t.Errorf("less of %v: %v, and again %v", l, got, again)
		}
	}
}

func TestP20LessInOrder(t *testing.T) {
	both := []impl.Entry{entry(0, 1, 1), entry(128, 1, 1)}
	for _, c := range []struct{ table, want []impl.Entry }{
		{nil, nil},
		// The entry for all addresses is examined first and its halves hide it, so it goes, although without the halves one entry would do.
		{[]impl.Entry{entry(0, 0, 1), entry(0, 1, 1), entry(128, 1, 1)}, both},
		{[]impl.Entry{entry(0, 0, 2), entry(0, 1, 1), entry(128, 1, 1)}, both},
		{both, both},
		{[]impl.Entry{entry(0, 0, 1), entry(0, 1, 1), entry(0, 2, 1), entry(0, 8, 1)}, []impl.Entry{entry(0, 0, 1)}},
		{[]impl.Entry{entry(0, 0, 1), entry(0, 1, 2), entry(0, 2, 1)}, []impl.Entry{entry(0, 0, 1), entry(0, 1, 2), entry(0, 2, 1)}},
		{[]impl.Entry{entry(0, 0, 1), entry(64, 2, 2), entry(96, 3, 1), entry(128, 1, 1)}, []impl.Entry{entry(0, 0, 1), entry(64, 2, 2), entry(96, 3, 1)}},
	} {
		if got := impl.TableLess(c.table); !slices.Equal(got, c.want) {
			t.Errorf("less of %v: %v, not %v", c.table, got, c.want)
		}
	}
}

func TestP21FirstEntriesAreATable(t *testing.T) {
	for _, l := range tables() {
		for i := range l {
			if !impl.TableOk(l[:i]) {
				t.Errorf("%v is a table", l[:i])
			}
			twice := slices.Insert(slices.Clone(l), i, l[i])
			other := slices.Clone(twice)
			other[i].Via = 1 + other[i].Via%9
			if impl.TableOk(twice) || impl.TableOk(other) || impl.TableOk(append(slices.Clone(l), l[i])) {
				t.Errorf("%v with %v twice", l, l[i])
			}
			for j := range i {
				swapped := slices.Clone(l)
				swapped[i], swapped[j] = swapped[j], swapped[i]
				if impl.TableOk(swapped) {
					t.Errorf("%v is no table", swapped)
				}
			}
		}
	}
}

func TestP22EntryForAllAddresses(t *testing.T) {
	for _, l := range tables() {
		if place(l, everything) >= 0 || len(l) == 12 {
			continue
		}
		old := finds(l)
		for addr, via := range finds(put(t, l, entry(0, 0, 6))) {
			if old[addr] == 0 && via != 6 || old[addr] != 0 && via != old[addr] {
				t.Errorf("%v at %d: %d, before %d", l, addr, via, old[addr])
			}
		}
	}
}

func TestP23PutOfAnEntryThatIsThere(t *testing.T) {
	for _, l := range tables() {
		for _, e := range l {
			if got := put(t, l, e); !slices.Equal(got, l) {
				t.Errorf("put %v to %v: %v", e, l, got)
			}
		}
	}
	for _, l := range fewTables() {
		for _, e := range someEntries(l) {
			if got, ok := impl.TablePut(l, e); ok && (!slices.Contains(got, e) || !impl.TableOk(got)) {
				t.Errorf("put %v to %v: %v", e, l, got)
			}
		}
	}
}

func TestP24HalvesInsteadOfAnEntry(t *testing.T) {
	for _, l := range tables() {
		for _, e := range l {
			if e.Range.Bits == 8 || len(l) == 12 {
				continue
			}
			lower, upper := halvesOf(e.Range)
			if place(l, lower) >= 0 || place(l, upper) >= 0 {
				continue
			}
			got := put(t, drop(t, l, e.Range), impl.Entry{Range: lower, Via: e.Via}, impl.Entry{Range: upper, Via: e.Via})
			if finds(got) != finds(l) || !impl.TableSame(got, l) {
				t.Errorf("%v with the halves of %v: %v", l, e, got)
			}
		}
	}
}

func TestP25EntryThatCoversNoOther(t *testing.T) {
	for _, l := range tables() {
		for i, e := range l {
			if slices.ContainsFunc(without(l, i), func(x impl.Entry) bool { return impl.RangeIn(x.Range, e.Range) }) {
				continue
			}
			for _, addr := range members(e.Range) {
				if got := impl.TableFind(l, addr); got != e.Via {
					t.Errorf("%v at %d: %d, not %d", l, addr, got, e.Via)
				}
			}
		}
	}
}

func TestP26EntryWithBothHalves(t *testing.T) {
	for _, l := range tables() {
		for _, e := range l {
			if e.Range.Bits == 8 {
				continue
			}
			lower, upper := halvesOf(e.Range)
			a, b := impl.Entry{Range: lower, Via: 7}, impl.Entry{Range: upper, Via: e.Via}
			if len(with(l, a, b)) > 12 {
				continue
			}
			both := put(t, l, a, b)
			if got := drop(t, both, e.Range); !impl.TableSame(got, both) || finds(got) != finds(both) {
				t.Errorf("%v without %v: %v", both, e, got)
			}
		}
	}
}

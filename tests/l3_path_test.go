package tests

import (
	"slices"
	"testing"

	"loop.example/wayboard/impl"
)

// pathAdd is PathAdd where it must succeed.
func pathAdd(t *testing.T, p []int, house int) []int {
	t.Helper()
	got, ok := impl.PathAdd(p, house)
	if !ok {
		t.Fatalf("add %d to %v: %v", house, p, got)
	}
	return got
}

func TestPathLimits(t *testing.T) {
	if impl.HouseMax != 5 {
		t.Error(impl.HouseMax)
	}
	if n := len(paths()); n != 1+5+20+60+120+120 {
		t.Error("paths:", n)
	}
	if !impl.PathOk(nil) || !impl.PathOk([]int{}) || !impl.PathOk([]int{1, 2, 3, 4, 5}) || !impl.PathOk([]int{5, 4, 3, 2, 1}) {
		t.Error("the empty path, and those of all systems")
	}
}

func TestP27ReadBackFromText(t *testing.T) {
	for _, p := range paths() {
		text := impl.PathText(p)
		if text != textOf(p) {
			t.Errorf("text of %v: %q", p, text)
		}
		if got, ok := impl.PathRead(text); !ok || !slices.Equal(got, p) {
			t.Errorf("read %q: %v %v", text, got, ok)
		}
	}
	if impl.PathText(nil) != "." {
		t.Errorf("text of nil: %q", impl.PathText(nil))
	}
	for _, c := range []struct {
		path []int
		text string
	}{{[]int{3, 1, 2}, "3-1-2"}, {[]int{4}, "4"}, {[]int{}, "."}, {[]int{1, 2, 3, 4, 5}, "1-2-3-4-5"}, {[]int{5, 4, 3, 2, 1}, "5-4-3-2-1"}} {
		if got := impl.PathText(c.path); got != c.text {
			t.Errorf("text of %v: %q", c.path, got)
		}
	}
}

func TestP29AddPrepends(t *testing.T) {
	for _, p := range paths() {
		for house := 1; house <= 5; house++ {
			got, ok := impl.PathAdd(p, house)
			if slices.Contains(p, house) {
				if ok || len(got) != 0 {
					t.Errorf("add %d to %v: %v %v", house, p, got, ok)
				}
				continue
			}
			if !ok || !impl.PathOk(got) || len(got) != len(p)+1 || got[0] != house || !slices.Equal(got[1:], p) {
				t.Errorf("add %d to %v: %v %v", house, p, got, ok)
			}
		}
	}
	if got, ok := impl.PathAdd(nil, 5); !ok || !slices.Equal(got, []int{5}) {
		t.Error("add 5 to nil:", got, ok)
	}
}

func TestP30HasEachSystemOfThePath(t *testing.T) {
	for _, p := range paths() {
		n := 0
		for _, house := range append(notHouses(), 1, 2, 3, 4, 5) {
			got := impl.PathHas(p, house)
			if got != slices.Contains(p, house) {
				t.Errorf("%v has %d: %v", p, house, got)
			}
			if got {
				n++
			}
		}
		if n != len(p) {
			t.Errorf("%v has %d systems", p, n)
		}
	}
}

func TestP31CmpOrders(t *testing.T) {
	all := paths()
	for i, a := range all {
		for j, b := range all {
			want := 0
			if i < j {
				want = -1
			} else if i > j {
				want = 1
			}
			got := impl.PathCmp(a, b)
			if got != want || impl.PathCmp(b, a) != -got || (got == 0) != slices.Equal(a, b) {
				t.Errorf("cmp %v %v: %d", a, b, got)
			}
			if len(a) < len(b) && got != -1 {
				t.Errorf("%v is shorter than %v: %d", a, b, got)
			}
		}
	}
	if impl.PathCmp(nil, []int{}) != 0 || impl.PathCmp([]int{}, nil) != 0 || impl.PathCmp(nil, []int{1}) != -1 || impl.PathCmp([]int{1}, nil) != 1 {
		t.Error("cmp of nil")
	}
}

func TestP31CmpOfSomePaths(t *testing.T) {
	for _, c := range []struct {
		a, b []int
		want int
	}{
		{[]int{5}, []int{1, 2}, -1},
		{[]int{5, 4, 3, 2}, []int{1, 2, 3, 4, 5}, -1},
		{[]int{1, 2}, []int{1, 2, 3}, -1},
		{[]int{2, 3}, []int{1, 2, 3}, -1},
		{[]int{1, 5, 4}, []int{2, 1, 3}, -1},
		{[]int{3, 1, 2}, []int{3, 1, 4}, -1},
		{[]int{3, 2, 1}, []int{3, 1, 2}, 1},
		{[]int{3, 1, 2}, []int{3, 1, 2}, 0},
	} {
		if got := impl.PathCmp(c.a, c.b); got != c.want {
			t.Errorf("cmp %v %v: %d", c.a, c.b, got)
		}
		if got := impl.PathCmp(c.b, c.a); got != -c.want {
			t.Errorf("cmp %v %v: %d", c.b, c.a, got)
		}
	}
}

func TestP31CmpWithASystemPrepended(t *testing.T) {
	all := paths()
	for _, a := range all {
		for _, b := range all {
			for house := 1; house <= 5; house++ {
				if slices.Contains(a, house) || slices.Contains(b, house) {
					continue
				}
				if got, want := impl.PathCmp(pathAdd(t, a, house), pathAdd(t, b, house)), impl.PathCmp(a, b); got != want {
					t.Errorf("cmp of %v and %v, behind %d: %d, not %d", a, b, house, got, want)
				}
			}
		}
	}
}

func TestP32CmpIsTransitive(t *testing.T) {
	all := paths()
	order := make([][]int, len(all))
	for i, a := range all {
		for _, b := range all {
			order[i] = append(order[i], impl.PathCmp(a, b))
		}
	}
	for i := range all {
		for j := range all {
			for k := range all {
				if order[i][j] <= 0 && order[j][k] <= 0 && order[i][k] != min(order[i][j], order[j][k]) {
					t.Fatalf("cmp of %v, %v and %v: %d %d %d", all[i], all[j], all[k], order[i][j], order[j][k], order[i][k])
				}
			}
		}
	}
}

func TestP33OkWithoutTheFirstSystems(t *testing.T) {
	for _, p := range paths() {
		for i := range len(p) + 1 {
			if !impl.PathOk(p[i:]) || !impl.PathOk(p[:i]) {
				t.Errorf("%v: %v and %v", p, p[:i], p[i:])
			}
			for _, house := range p {
				if twice := slices.Insert(slices.Clone(p), i, house); impl.PathOk(twice) {
					t.Errorf("%v is no path", twice)
				}
			}
		}
	}
}

func TestP33OkIfEachSystemOnce(t *testing.T) {
	n := 0
	for _, p := range lists() {
		got := impl.PathOk(p)
		if got != isPath(p) {
			t.Errorf("%v ok: %v", p, got)
		}
		if got {
			n++
		}
	}
	if n != 326 {
		t.Error("paths:", n)
	}
}

func TestP34SuffixesGrowByThePreviousSystem(t *testing.T) {
	for _, p := range paths() {
		grown := []int{}
		for i := len(p) - 1; i >= 0; i-- {
			grown = pathAdd(t, grown, p[i])
			if !impl.PathOk(grown) || !slices.Equal(grown, p[i:]) {
				t.Errorf("%v from %d on: %v", p, i, grown)
			}
			if got := pathAdd(t, p[i+1:], p[i]); !slices.Equal(got, p[i:]) {
				t.Errorf("add %d to %v: %v", p[i], p[i+1:], got)
			}
		}
	}
}

func TestP35TextsDiffer(t *testing.T) {
	known := map[string][]int{}
	for _, p := range paths() {
		text := impl.PathText(p)
		if other, ok := known[text]; ok {
			t.Errorf("%v and %v: %q", p, other, text)
		}
		known[text] = p
	}
}

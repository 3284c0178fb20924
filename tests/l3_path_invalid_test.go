package tests

import (
	"slices"
	"testing"

	"loop.example/wayboard/impl"
)

func TestP33NoPaths(t *testing.T) {
	for _, p := range notPaths() {
		if isPath(p) || impl.PathOk(p) {
			t.Errorf("%v is no path", p)
		}
	}
}

func TestP29P30NoPaths(t *testing.T) {
	for _, p := range notPaths() {
		for _, house := range append([]int{1, 2, 3, 4, 5}, notHouses()...) {
			if impl.PathHas(p, house) {
				t.Errorf("%v is no path, but has %d", p, house)
			}
			if got, ok := impl.PathAdd(p, house); ok || len(got) != 0 {
				t.Errorf("add %d to %v: %v %v", house, p, got, ok)
			}
		}
	}
}

func TestP29AddNoSystem(t *testing.T) {
	for _, p := range append(paths(), nil) {
		for _, house := range notHouses() {
			if got, ok := impl.PathAdd(p, house); ok || len(got) != 0 {
				t.Errorf("add %d to %v: %v %v", house, p, got, ok)
			}
		}
	}
}

func TestP27P35NoPathsHaveNoText(t *testing.T) {
	for _, p := range slices.Concat(notPaths(), lists()) {
		if text := impl.PathText(p); !isPath(p) && text != "" {
			t.Errorf("text of %v: %q", p, text)
		}
	}
}

func TestP31NoPathsAreNotOrdered(t *testing.T) {
	for _, bad := range notPaths() {
		for _, p := range [][]int{nil, {}, {1}, {5}, {2, 1}, {1, 2, 3, 4, 5}, {5, 4, 3, 2, 1}, bad, {1, 1}, {0}} {
			if impl.PathCmp(bad, p) != 0 || impl.PathCmp(p, bad) != 0 {
				t.Errorf("cmp of %v and %v", bad, p)
			}
		}
	}
}

func TestP29AddIsNewMemory(t *testing.T) {
	for _, p := range slices.Concat(paths(), notPaths()) {
		for house := 0; house <= 6; house++ {
			given := roomyPath(p)
			all := given[:cap(given)]
			kept := slices.Clone(all)
			first, _ := impl.PathAdd(given, house)
			second, _ := impl.PathAdd(given, house)
			want := slices.Clone(first)
			if !slices.Equal(all, kept) {
				t.Fatalf("add %d changes %v: %v", house, kept, all)
			}
			scribblePath(first)
			if !slices.Equal(all, kept) || !slices.Equal(second, want) {
				t.Fatalf("add %d to %v: the result shares memory", house, p)
			}
			scribblePath(given)
			if !slices.Equal(second, want) {
				t.Fatalf("add %d to %v: the argument shares memory", house, p)
			}
		}
	}
}

func TestP27P28ReadIsNewMemory(t *testing.T) {
	for text, want := range pathTexts() {
		first, _ := impl.PathRead(text)
		second, _ := impl.PathRead(text)
		scribblePath(first)
		if !slices.Equal(second, want) {
			t.Fatalf("read %q: two results share memory", text)
		}
		if again, ok := impl.PathRead(text); !ok || !slices.Equal(again, want) {
			t.Fatalf("read %q: a result is kept", text)
		}
	}
}

func TestP30P31P33ArgumentsStay(t *testing.T) {
	for _, p := range slices.Concat(paths(), notPaths()) {
		a, b := roomyPath(p), roomyPath(p)
		impl.PathOk(a)
		impl.PathText(a)
		impl.PathCmp(a, b)
		impl.PathCmp(a, a)
		for house := 0; house <= 6; house++ {
			impl.PathHas(a, house)
		}
		want := roomyPath(p)
		if !slices.Equal(a[:len(p)+5], want[:len(p)+5]) || !slices.Equal(b[:len(p)+5], want[:len(p)+5]) {
			t.Errorf("%v is changed: %v %v", p, a, b)
		}
	}
}

// What a path is does not depend on the room behind it.
func TestP30P31P33RoomDoesNotMatter(t *testing.T) {
	for _, p := range paths() {
		if x := roomyPath(p); !impl.PathOk(x) || impl.PathText(x) != impl.PathText(p) || impl.PathCmp(x, p) != 0 {
			t.Errorf("%v with room behind it", p)
		}
	}
}

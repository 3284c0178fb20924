package tests

import (
	"slices"
	"testing"

	"loop.example/wayboard/impl"
)

// roomyRels have room behind the rows and behind each of them, as a careless append or a careless index would use.
func roomyRels(m [][]int) [][]int {
	out := make([][]int, 0, len(m)+2)
	for _, row := range m {
		out = append(out, roomyPath(row))
	}
	return append(out, []int{1, 2, 3, 1, 2, 3}, []int{2, 2, 2, 2, 2, 2})[:len(m)]
}

// memoryOfRels is what a matrix holds, to the end of its capacity and of that of each row.
func memoryOfRels(m [][]int) [][]int {
	var all [][]int
	for _, row := range m[:cap(m)] {
		all = append(all, slices.Clone(row[:cap(row)]))
	}
	return all
}

// sharedRels have rows that stand behind each other in one piece of memory, so that each row's capacity has the next ones.
func sharedRels(m [][]int) [][]int {
	var flat []int
	for _, row := range m {
		flat = append(flat, row...)
	}
	var out [][]int
	for i := range m {
		out = append(out, flat[i*len(m):(i+1)*len(m)])
	}
	return out
}

// relsAnswers are all results of all functions, as far as they are about systems around the limits.
func relsAnswers(m [][]int) []int {
	var all []int
	add := func(yes bool) {
		n := 0
		if yes {
			n = 1
		}
		all = append(all, n)
	}
	add(impl.RelsOk(m))
	add(impl.RelsFree(m))
	order, ok := impl.RelsOrder(m)
	add(ok)
	all = append(all, order...)
	for a := -1; a <= 6; a++ {
		for b := -1; b <= 6; b++ {
			all = append(all, impl.RelOf(m, a, b))
			for of := -1; of <= 6; of++ {
				add(impl.RelMay(m, a, of, b))
			}
		}
	}
	return all
}

func someRels() [][][]int {
	few := notElements()
	all := append(fewNets(), notSizes()...)
	for i := 0; i < len(few); i += 23 {
		all = append(all, few[i])
	}
	return all
}

func TestP58P59P61P62P63ArgumentsStay(t *testing.T) {
	for _, m := range someRels() {
		given := roomyRels(m)
		kept := memoryOfRels(given)
		relsAnswers(given)
		if !sameRels(memoryOfRels(given), kept) {
			t.Errorf("%v is changed: %v", m, given)
		}
	}
}

func TestP61OrderIsNewMemory(t *testing.T) {
	for _, m := range slices.Concat(nets(), notSizes()) {
		given := roomyRels(m)
		kept := memoryOfRels(given)
		first, _ := impl.RelsOrder(given)
		second, _ := impl.RelsOrder(given)
		want := slices.Clone(second)
		scribblePath(first)
		if !sameRels(memoryOfRels(given), kept) || !slices.Equal(second, want) {
			t.Fatalf("%v: the result shares memory", m)
		}
		if again, _ := impl.RelsOrder(given); !slices.Equal(again, want) {
			t.Fatalf("%v: a result is kept: %v", m, again)
		}
		for _, row := range given {
			scribblePath(row)
		}
		clear(given)
		if !slices.Equal(second, want) {
			t.Fatalf("%v: the argument shares memory", m)
		}
	}
}

// What is told of a matrix depends neither on the room behind it nor on what its rows share.
func TestP58P59P61P62P63RoomDoesNotMatter(t *testing.T) {
	for _, m := range someRels() {
		want := relsAnswers(deepRels(m))
		if !slices.Equal(relsAnswers(roomyRels(m)), want) {
			t.Errorf("%v with room behind it", m)
		}
		if isNet(m) && !slices.Equal(relsAnswers(sharedRels(m)), want) {
			t.Errorf("%v with rows in one piece", m)
		}
	}
	for n := 1; n <= 5; n++ {
		one := slices.Repeat([][]int{make([]int, n)}, n)
		if !slices.Equal(relsAnswers(one), relsAnswers(bare(n))) {
			t.Errorf("%d systems with one row for all", n)
		}
	}
}

// A call changes nothing for a later one, of the same matrix or of another one.
func TestP58P59P61P62P63NoStateIsKept(t *testing.T) {
	all := someRels()
	var first [][]int
	for _, m := range all {
		first = append(first, relsAnswers(m))
	}
	for i, m := range slices.Backward(all) {
		if !slices.Equal(relsAnswers(m), first[i]) {
			t.Errorf("%v: another answer than before", m)
		}
	}
}

package tests

import (
	"slices"
	"strings"
)

// The expectations here count systems and compare plain lists, so that they share no bit set with the program.

func isPath(p []int) bool {
	count := map[int]int{}
	for _, house := range p {
		count[house]++
		if house < 1 || house > 5 || count[house] > 1 {
			return false
		}
	}
	return true
}

// longerBy are the paths with each system that they lack appended.
func longerBy(short [][]int) [][]int {
	var all [][]int
	for _, p := range short {
		for house := 1; house <= 5; house++ {
			if !slices.Contains(p, house) {
				all = append(all, append(slices.Clone(p), house))
			}
		}
	}
	return all
}

// paths are all 326 paths, in the document's order: by length, and then as in a dictionary.
func paths() [][]int {
	all := [][]int{{}}
	for last := all; len(last) > 0; {
		last = longerBy(last)
		all = append(all, last...)
	}
	return all
}

// textOf writes a path of systems of one digit.
func textOf(p []int) string {
	var words []string
	for _, house := range p {
		words = append(words, string(rune('0'+house)))
	}
	if len(words) == 0 {
		return "."
	}
	return strings.Join(words, "-")
}

// pathTexts are the texts of all paths, and nothing else.
func pathTexts() map[string][]int {
	known := map[string][]int{}
	for _, p := range paths() {
		known[textOf(p)] = p
	}
	return known
}

// notHouses are numbers of no system, among them those whose low bits look like one.
func notHouses() []int {
	return append([]int{-5, -4, -3, 0, 6, 7, 8, 9, 10, 31, 32, 33, 34, 63, 64, 65, 66, 69, 128, 129}, extremes...)
}

// notPaths are of each kind that is no path: with a system twice, with what is no system, or longer than any path.
func notPaths() [][]int {
	all := [][]int{
		{1, 1}, {5, 5}, {1, 2, 1}, {1, 2, 2}, {2, 2, 1}, {3, 1, 2, 3}, {1, 2, 3, 4, 5, 1}, {1, 2, 3, 4, 5, 5}, {5, 1, 2, 3, 4, 5},
		{1, 2, 3, 4, 5, 6}, {0, 1, 2, 3, 4, 5}, {1, 2, 3, 4, 5, 0}, {0, 0}, {6, 6}, {-1, 1}, {0, 1, 0},
		make([]int, 5), make([]int, 6), make([]int, 5000), slices.Repeat([]int{3}, 64), slices.Repeat([]int{1, 2, 3, 4, 5}, 1000),
	}
	for _, bad := range notHouses() {
		all = append(all, []int{bad}, []int{bad, 1}, []int{1, bad}, []int{2, bad, 3}, []int{1, 2, 3, 4, bad}, []int{bad, 2, 3, 4, 5}, []int{bad, bad})
	}
	return all
}

// lists are all lists of up to five numbers around the limits.
func lists() [][]int {
	all := [][]int{{}}
	for last := all; len(last[0]) < 5; {
		var next [][]int
		for _, p := range last {
			for n := -1; n <= 6; n++ {
				next = append(next, append(slices.Clone(p), n))
			}
		}
		all = append(all, next...)
		last = next
	}
	return all
}

// roomyPath is a path with room behind it, as a careless append would use.
func roomyPath(p []int) []int {
	return append(slices.Clone(p), 5, 4, 3, 2, 1)[:len(p)]
}

func scribblePath(p []int) {
	p = p[:cap(p)]
	for i := range p {
		p[i] = -7
	}
}

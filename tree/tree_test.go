package tree_test

import (
	"math"
	"math/rand"
	"slices"
	"testing"

	"wherry/api"
	"wherry/canon"
	"wherry/tree"
)

// slowLengths follows the words of the chapter: nodes in the order in which they arose, each with the weights that it contains.
func slowLengths(weights []int, limit int) (lengths []int, halved bool) {
	w := slices.Clone(weights)
	for {
		lengths = slowTree(w)
		if len(lengths) == 0 || slices.Max(lengths) <= limit {
			return lengths, halved
		}
		halved = true
		for i := range w {
			if w[i] > 0 {
				w[i] = (w[i] + 1) / 2
			}
		}
	}
}

func slowTree(w []int) []int {
	type node struct {
		weight int
		leaves []int
	}
	var nodes []node
	for i, x := range w {
		if x > 0 {
			nodes = append(nodes, node{x, []int{i}})
		}
	}
	lengths := make([]int, len(w))
	if len(nodes) == 1 {
		lengths[nodes[0].leaves[0]] = 1
		return lengths
	}
	take := func() node {
		best := 0
		for i, n := range nodes {
			if n.weight < nodes[best].weight {
				best = i
			}
		}
		n := nodes[best]
		nodes = slices.Delete(nodes, best, best+1)
		for _, i := range n.leaves {
			lengths[i]++
		}
		return n
	}
	for len(nodes) > 1 {
		a := take()
		b := take()
		nodes = append(nodes, node{a.weight + b.weight, slices.Concat(a.leaves, b.leaves)})
	}
	return lengths
}

func fibonacci(n int) []int {
	l := []int{1, 1}
	for len(l) < n {
		l = append(l, l[len(l)-1]+l[len(l)-2])
	}
	return l
}

func someWeights(rnd *rand.Rand) []int {
	n := rnd.Intn(301)
	if rnd.Intn(2) == 0 {
		n = rnd.Intn(24)
	}
	most := []int{1, 2, 3, 9, 100, 5000, 1 << 20}[rnd.Intn(7)]
	w := make([]int, n)
	for i := range w {
		switch rnd.Intn(4) {
		case 0:
			w[i] = 0
		case 1:
			w[i] = 1 + most>>rnd.Intn(20)/2
		default:
			w[i] = rnd.Intn(most + 1)
		}
	}
	return w
}

func TestLengthsExamples(t *testing.T) {
	for k, c := range []struct {
		w     []int
		limit int
		want  []int
	}{
		{[]int{5, 1, 1, 2}, 15, []int{1, 3, 3, 2}},
		{nil, 15, nil}, {[]int{0, 0}, 5, []int{0, 0}}, {[]int{0, 7, 0}, 9, []int{0, 1, 0}}, {[]int{1 << 20}, 15, []int{1}},
		{[]int{1, 1}, 5, []int{1, 1}}, {[]int{1, 0, 3}, 5, []int{1, 0, 1}},
		{[]int{1, 1, 1}, 5, []int{2, 2, 1}},
		{[]int{1, 1, 2, 2}, 5, []int{2, 2, 2, 2}}, {[]int{1, 1, 2}, 5, []int{2, 2, 1}}, {[]int{2, 1, 1, 2, 2}, 5, []int{2, 3, 3, 2, 2}},
		{[]int{1, 1, 1, 1, 1}, 5, []int{3, 3, 2, 2, 2}}, {[]int{1, 1, 1, 1, 1, 1}, 5, []int{3, 3, 3, 3, 2, 2}},
		{fibonacci(6), 5, []int{5, 5, 4, 3, 2, 1}},
		// The weights become 1 1 1 2 3 4 7.
		{fibonacci(7), 5, []int{4, 4, 3, 3, 3, 2, 2}},
		{fibonacci(16), 15, []int{15, 15, 14, 13, 12, 11, 10, 9, 8, 7, 6, 5, 4, 3, 2, 1}},
	} {
		got, e := tree.Lengths(c.w, c.limit)
		slow, _ := slowLengths(c.w, c.limit)
		if e != api.OK || !slices.Equal(got, c.want) || !slices.Equal(slow, c.want) {
			t.Error(k, got, slow, e)
		}
	}
}

func TestLengthsErrors(t *testing.T) {
	ones := func(n int) []int { return slices.Repeat([]int{1}, n) }
	mixed := append(ones(19), make([]int, 281)...)
	for k, c := range []struct {
		w     []int
		limit int
		e     api.Errno
	}{
		{ones(300), 9, 0}, {ones(301), 15, api.ErrArg}, {make([]int, 300), 5, 0}, {make([]int, 301), 15, api.ErrArg},
		{ones(300), 8, api.ErrArg}, {ones(300), 15, 0}, {ones(300), 16, api.ErrArg}, {ones(20), 8, api.ErrArg}, {ones(20), 9, 0}, {ones(20), 16, api.ErrArg},
		{ones(19), 8, 0}, {ones(19), 5, 0}, {ones(19), 4, api.ErrArg}, {ones(19), 15, 0}, {ones(19), 16, api.ErrArg}, {mixed, 5, 0}, {mixed, 4, api.ErrArg}, {append(mixed[:299:299], 1), 5, api.ErrArg},
		{nil, 5, 0}, {nil, 4, api.ErrArg}, {nil, 0, api.ErrArg}, {nil, -1, api.ErrArg}, {nil, 16, api.ErrArg}, {nil, math.MaxInt, api.ErrArg}, {nil, math.MinInt, api.ErrArg},
		{[]int{1 << 20}, 9, 0}, {[]int{1<<20 + 1}, 9, api.ErrArg}, {[]int{3, -1}, 9, api.ErrArg}, {[]int{math.MaxInt, math.MaxInt}, 9, api.ErrArg}, {[]int{math.MinInt}, 9, api.ErrArg},
	} {
		before := slices.Clone(c.w)
		got, e := tree.Lengths(c.w, c.limit)
		if e != c.e || e != api.OK && len(got) != 0 || e == api.OK && len(got) != len(c.w) {
			t.Error(k, got, e)
		}
		if !slices.Equal(before, c.w) {
			t.Error(k, "the argument was changed")
		}
	}
}

func TestLengthsByTheWords(t *testing.T) {
	rnd := rand.New(rand.NewSource(1))
	for range 600 {
		w := someWeights(rnd)
		least := 9
		if len(slices.DeleteFunc(slices.Clone(w), func(x int) bool { return x == 0 })) <= 19 {
			least = 5
		}
		limit := least + rnd.Intn(16-least)
		want, _ := slowLengths(w, limit)
		got, e := tree.Lengths(w, limit)
		if e != api.OK || !slices.Equal(got, want) {
			t.Fatal(w, limit, got, want, e)
		}
	}
	for limit := 5; limit <= 15; limit++ {
		w := fibonacci(19)
		want, _ := slowLengths(w, limit)
		if got, e := tree.Lengths(w, limit); e != api.OK || !slices.Equal(got, want) {
			t.Fatal(limit, got, want, e)
		}
	}
}

func TestCost(t *testing.T) {
	for k, c := range []struct {
		w, l []int
		want int
		e    api.Errno
	}{
		{nil, nil, 0, 0}, {[]int{5, 1, 1, 2}, []int{1, 3, 3, 2}, 15, 0}, {[]int{0, 3}, []int{15, 0}, 0, 0},
		{slices.Repeat([]int{1 << 20}, 300), slices.Repeat([]int{15}, 300), 300 * 15 << 20, 0},
		{[]int{1}, nil, 0, api.ErrLen}, {nil, []int{1}, 0, api.ErrLen}, {[]int{-1}, []int{1, 99}, 0, api.ErrLen}, {make([]int, 301), make([]int, 302), 0, api.ErrLen},
		{make([]int, 301), make([]int, 301), 0, api.ErrArg}, {make([]int, 300), make([]int, 300), 0, 0},
		{[]int{1<<20 + 1}, []int{0}, 0, api.ErrArg}, {[]int{-1}, []int{0}, 0, api.ErrArg}, {[]int{1, 1}, []int{3, 16}, 0, api.ErrArg}, {[]int{1, 1}, []int{3, -1}, 0, api.ErrArg}, {[]int{0}, []int{math.MaxInt}, 0, api.ErrArg}, {[]int{0}, []int{16}, 0, api.ErrArg}, {[]int{1, math.MinInt}, []int{1, 1}, 0, api.ErrArg},
	} {
		if got, e := tree.Cost(c.w, c.l); got != c.want || e != c.e {
			t.Error(k, got, e)
		}
	}
}

// TestFormsACode is promise P3.2.
func TestFormsACode(t *testing.T) {
	rnd := rand.New(rand.NewSource(2))
	for range 600 {
		w := someWeights(rnd)
		limit := 9 + rnd.Intn(7)
		l, e := tree.Lengths(w, limit)
		if e != api.OK || canon.Check(l) != api.OK {
			t.Fatal(w, l, e)
		}
		for i := range l {
			if l[i] > limit || (l[i] == 0) != (w[i] == 0) {
				t.Fatal(w, l, limit)
			}
		}
	}
}

// leastCost tries every list of lengths that forms a code for all weights.
func leastCost(w []int, room, at int) int {
	if at == len(w) {
		if room == 0 {
			return 0
		}
		return math.MaxInt32
	}
	best := math.MaxInt32
	for n := 1; n < len(w); n++ {
		if part := 1 << (10 - n); part <= room {
			best = min(best, w[at]*n+leastCost(w, room-part, at+1))
		}
	}
	return best
}

// TestLeastCost is promise P3.2.
func TestLeastCost(t *testing.T) {
	rnd := rand.New(rand.NewSource(3))
	for range 150 {
		w := make([]int, 2+rnd.Intn(4))
		for i := range w {
			w[i] = 1 + rnd.Intn(12)
		}
		l, _ := tree.Lengths(w, 15)
		if cost, e := tree.Cost(w, l); e != api.OK || cost != leastCost(w, 1<<10, 0) {
			t.Fatal(w, l, cost, e)
		}
	}
}

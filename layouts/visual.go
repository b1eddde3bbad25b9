package layouts

import (
	"math"
	"slices"
)

// visualOrder puts the clusters of a line in the order in which they are seen, from left to right.
func (c signs) visualOrder(from, to int) []int {
	order := make([]int, to-from)
	greatest, leastOdd := 0, math.MaxInt
	for i := range order {
		cluster := from + i
		order[i] = cluster
		greatest = max(greatest, c.levels[cluster])
		if c.runsLeft(cluster) {
			leastOdd = min(leastOdd, c.levels[cluster])
		}
	}
	for level := greatest; level >= leastOdd; level-- {
		c.turnRound(order, level)
	}
	return order
}

// turnRound turns round what stands together and has this level or a greater one.
func (c signs) turnRound(order []int, level int) {
	deep := func(cluster int) bool { return c.levels[cluster] >= level }
	for _, p := range parts(order, deep) {
		slices.Reverse(order[p.from:p.to])
	}
}

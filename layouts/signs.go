package layouts

import (
	"slices"

	"caret/api"
	"caret/clusters"
)

// signs are the clusters of a text, in its order.
type signs struct {
	bounds []int   // where they begin and end: one more than there are
	levels []int   // of each, as on its line
	widths []int64 // of each
}

func signsOf(s api.Setup, text []api.Rune, leveled []int) signs {
	c := signs{bounds: clusters.Bounds(s.Text)}
	for i, r := range text {
		if r.From == c.bounds[len(c.levels)] {
			c.levels = append(c.levels, leveled[i])
			c.widths = append(c.widths, 0)
		}
		c.widths[len(c.widths)-1] += int64(s.Widths[i])
	}
	return c
}

func (c signs) end() int { return c.bounds[len(c.bounds)-1] }

// at tells which boundary stands at a byte: it is where the cluster of this number begins, and the one ahead ends.
func (c signs) at(bound int) int {
	number, _ := slices.BinarySearch(c.bounds, bound)
	return number
}

// bound is the byte of a boundary, or of the nearest one that there is.
func (c signs) bound(number int) int { return c.bounds[nearest(number, len(c.bounds)-1)] }

func (c signs) runsLeft(cluster int) bool { return c.levels[cluster]%2 == 1 }

// side is the caret at the left or the right of a cluster.
func (c signs) side(cluster int, right bool) api.Caret {
	if right == c.runsLeft(cluster) {
		return api.Caret{Offset: c.bounds[cluster]}
	}
	return api.Caret{Offset: c.bounds[cluster+1], Back: true}
}

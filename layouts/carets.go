package layouts

import (
	"slices"

	"caret/api"
	"caret/clusters"
)

// Place is the caret that is meant by one.
func (l *Layout) Place(c api.Caret) api.Caret {
	c.Offset = clusters.SnapAmong(l.bounds, c.Offset, false)
	switch c.Offset {
	case 0:
		c.Back = false
	case l.end():
		c.Back = true
	}
	return c
}

// Gap is where a caret stands.
func (l *Layout) Gap(c api.Caret) api.Gap {
	if len(l.levels) == 0 {
		return api.Gap{}
	}
	c = l.Place(c)
	cluster := l.at(c.Offset)
	if c.Back {
		cluster--
	}
	line := l.holding(l.bounds[cluster])
	gap := slices.Index(l.lines[line].Order, cluster)
	// Back: at the cluster's end, which is its right, unless it runs to the left.
	if c.Back != l.runsLeft(cluster) {
		gap++
	}
	return api.Gap{Line: line, Gap: gap}
}

// Normal is the caret of a gap.
func (l *Layout) Normal(g api.Gap) api.Caret {
	order := l.lines[l.nearest(g.Line)].Order
	gap := nearest(g.Gap, len(order))
	switch {
	case len(order) == 0:
		return api.Caret{}
	case gap == 0:
		return l.side(order[0], false)
	}
	return l.side(order[gap-1], true)
}

// X is where a caret stands on its line.
func (l *Layout) X(c api.Caret) int64 {
	g := l.Gap(c)
	return l.lines[g.Line].X[g.Gap]
}

// Hit is the caret at a place on a line.
func (l *Layout) Hit(line int, x int64) api.Caret {
	line = l.nearest(line)
	return l.Normal(api.Gap{Line: line, Gap: gapNear(l.lines[line].X, x)})
}

// gapNear tells the least of the gaps that are nearest to x. Beyond the ends of a line these are nearest, however far away x is: so x is taken for one of them, lest a distance wrap round.
func gapNear(gaps []int64, x int64) int {
	x = min(max(x, 0), gaps[len(gaps)-1])
	found := 0
	for gap, at := range gaps {
		if distance(at, x) < distance(gaps[found], x) {
			found = gap
		}
	}
	return found
}

func distance(a, b int64) int64 { return max(a-b, b-a) }

// Package layouts: texts that are laid out on lines, and carets in them.
package layouts

import (
	"slices"

	"caret/api"
	"caret/levels"
	"caret/runes"
	"caret/setups"
)

// Layout is made of the clusters of a text, and of the lines on which they stand.
type Layout struct {
	signs
	lines
	rightward int // from a line to the next one on the right: 1, or -1 where the paragraph runs to the left
}

// New lays a text out; what is wrong with the setup it tells as a setups.Fault.
func New(s api.Setup) (*Layout, error) {
	if err := setups.Check(s); err != nil {
		return nil, err
	}
	return Lay(s), nil
}

// Lay lays a text out, where it is known that nothing is wrong with the setup.
func Lay(s api.Setup) *Layout {
	text := runes.Decode(s.Text)
	edges := slices.Concat([]int{0}, s.Breaks, []int{len(s.Text)})
	leveled, paragraph := levels.Of(s.Text, s.Base)
	settleEnds(text, leveled, paragraph, edges)
	c := signsOf(s, text, leveled)
	return &Layout{signs: c, lines: c.linesBetween(edges), rightward: 1 - 2*paragraph}
}

// Clusters tells the clusters, in the order of the text.
func (l *Layout) Clusters() []api.Cluster {
	out := make([]api.Cluster, len(l.levels))
	for i := range out {
		out[i] = api.Cluster{From: l.bounds[i], To: l.bounds[i+1], Level: l.levels[i], Width: l.widths[i]}
	}
	return out
}

// Lines tells the lines, from the first to the last.
func (l *Layout) Lines() []api.Line {
	out := slices.Clone(l.lines)
	for i := range out {
		out[i].Order = slices.Clone(out[i].Order)
		out[i].X = slices.Clone(out[i].X)
	}
	return out
}

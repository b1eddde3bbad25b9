package layouts

import (
	"slices"

	"caret/api"
	"caret/levels"
	"caret/runes"
)

// lines are those of a layout: one at least.
type lines []api.Line

func (n lines) nearest(line int) int { return nearest(line, len(n)-1) }

func (n lines) has(line int) bool { return n.nearest(line) == line }

func (n lines) lastGap(line int) int { return len(n[line].Order) }

// holding tells which line holds what begins at a byte.
func (n lines) holding(from int) int {
	return slices.IndexFunc(n, func(line api.Line) bool { return from < line.To })
}

func nearest(number, most int) int { return min(max(number, 0), most) }

// settleEnds gives the paragraph's level to what ends lines and parts of lines. It goes from the end, as this hangs on what stands behind.
func settleEnds(text []api.Rune, leveled []int, paragraph int, edges []int) {
	ends := false
	for i, r := range slices.Backward(text) {
		class := runes.ClassOf(r.Rune)
		_, atEdge := slices.BinarySearch(edges, r.To)
		ends = class == api.S || class == api.B || trails(class) && (ends || atEdge)
		if ends {
			leveled[i] = paragraph
		}
	}
}

// trails tells what goes with the end that it stands at.
func trails(class api.Class) bool {
	return class == api.WS || levels.SetsApart(class) || levels.PassedOver(class)
}

func (c signs) linesBetween(edges []int) lines {
	var out lines
	for i, to := range edges[1:] {
		from := edges[i]
		order := c.visualOrder(c.at(from), c.at(to))
		out = append(out, api.Line{From: from, To: to, Order: order, X: c.gaps(order)})
	}
	return out
}

// gaps tells where the gaps of a line stand.
func (c signs) gaps(order []int) []int64 {
	x := []int64{0}
	for i, cluster := range order {
		x = append(x, x[i]+c.widths[cluster])
	}
	return x
}

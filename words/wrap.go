package words

import (
	"unicode/utf8"

	"caret/api"
	"caret/clusters"
)

// Wrap tells where a text is broken into lines that are no wider than room, as far as can be; nil, if the widths are not one for each rune.
func Wrap(text string, widths []int, room int) []int {
	if len(widths) != utf8.RuneCountInString(text) {
		return nil
	}
	var breaks []int
	rest := piecesOf(text, widths)
	for {
		rest = rest[onOneLine(rest, room):]
		if len(rest) == 0 {
			return breaks
		}
		breaks = append(breaks, rest[0].from)
	}
}

// piece is a cluster, as far as wrapping asks for it.
type piece struct {
	from   int
	blank  bool
	widths []int // of its runes
}

func piecesOf(text string, widths []int) []piece {
	var out []piece
	for from, cluster := range clusters.All(text) {
		count := utf8.RuneCountInString(cluster)
		out = append(out, piece{from, firstClass(cluster) == api.WS, widths[:count]})
		widths = widths[count:]
	}
	return out
}

// onOneLine tells how many of the pieces the next line takes: one at least, if there are any.
func onOneLine(rest []piece, room int) int {
	left := max(room, over)
	behindBlank := 0
	for i, p := range rest {
		left = p.leaves(left)
		switch {
		case p.blank:
			behindBlank = i + 1
		case i > 0 && left == over && behindBlank > 0:
			return behindBlank
		case i > 0 && left == over:
			return i
		}
	}
	return len(rest)
}

// over is what is left of the room of a line that is wider than that.
const over = -1

// leaves tells what a piece leaves of the room that is left. Room is taken away instead of widths being added, as a sum of many widths might wrap round.
func (p piece) leaves(left int) int {
	for _, width := range p.widths {
		width = min(max(width, 0), api.MaxWidth)
		if width > left {
			return over
		}
		left -= width
	}
	return left
}

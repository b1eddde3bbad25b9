package caret_test

import (
	"math"
	"slices"
	"testing"

	"caret/api"
	"caret/caret"
)

// moveOf: P18 to P20, as their sentences go.
func (d drawn) moveOf(do int, c api.Caret, goal int64) (api.Caret, bool) {
	place, line := d.placeOf(c), d.lines[d.gapOf(c).Line]
	var other api.Caret
	switch do {
	case api.Right:
		return d.stepOf(c, 1)
	case api.Left:
		return d.stepOf(c, -1)
	case api.Up:
		return d.crossOf(c, d.gapOf(c).Line-1, goal)
	case api.Down:
		return d.crossOf(c, d.gapOf(c).Line+1, goal)
	case api.Next:
		other = api.Caret{Offset: d.lines[len(d.lines)-1].To, Back: true}
		for _, k := range slices.Backward(d.clusters) {
			if k.To > place.Offset {
				other.Offset = k.To
			}
		}
	case api.Prev:
		for _, k := range d.clusters {
			if k.From < place.Offset {
				other.Offset = k.From
			}
		}
	case api.Home:
		other = api.Caret{Offset: line.From}
	case api.End:
		other = api.Caret{Offset: line.To, Back: true}
	default:
		return place, false
	}
	other = d.placeOf(other)
	return other, other != place
}

// stepOf: all gaps in a row, those of the lines from the first to the last (of an odd paragraph from the last to the first): the next one there, or the one ahead.
func (d drawn) stepOf(c api.Caret, by int) (api.Caret, bool) {
	var row []api.Gap
	for i := range d.lines {
		if d.paragraph == 1 {
			i = len(d.lines) - 1 - i
		}
		for k := range d.lines[i].X {
			row = append(row, api.Gap{Line: i, Gap: k})
		}
	}
	next := slices.Index(row, d.gapOf(c)) + by
	if next < 0 || next == len(row) {
		return d.placeOf(c), false
	}
	return d.normalOf(row[next]), true
}

func (d drawn) crossOf(c api.Caret, line int, goal int64) (api.Caret, bool) {
	if line < 0 || line == len(d.lines) {
		return d.placeOf(c), false
	}
	return d.hitOf(line, goal), true
}

// selectOf: P21: of all parts of all lines those that are selected whole, and whose neighbours are not.
func (d drawn) selectOf(a, b int) []api.Span {
	from, to := d.placeOf(api.Caret{Offset: min(a, b)}).Offset, max(a, b)
	for d.placeOf(api.Caret{Offset: to}).Offset < to && to < d.lines[len(d.lines)-1].To {
		to++
	}
	var out []api.Span
	for i, line := range d.lines {
		chosen := func(place int) bool {
			if place < 0 || place == len(line.Order) {
				return false
			}
			k := d.clusters[line.Order[place]]
			return from <= k.From && k.To <= to
		}
		for left := range line.Order {
			right := left
			for chosen(right) {
				right++
			}
			if right > left && !chosen(left-1) {
				out = append(out, api.Span{Line: i, From: left, To: right, Left: line.X[left], Right: line.X[right]})
			}
		}
	}
	return out
}

func (d drawn) checkMove(t *testing.T, s api.Setup, l *caret.Layout, do int, c api.Caret, goal int64) {
	t.Helper()
	want, moves := d.moveOf(do, c, goal)
	if got, moved := l.Move(do, c, goal); got != want || moved != moves {
		t.Fatalf("P18 to P20: %+q, base %d, widths %v, breaks %v: Move(%d, %v, %d) = %v, %v, want %v, %v", s.Text, s.Base, s.Widths, s.Breaks, do, c, goal, got, moved, want, moves)
	}
}

func (d drawn) checkMoves(t *testing.T, s api.Setup, l *caret.Layout, goals []int64) {
	t.Helper()
	for offset := -2; offset <= len(s.Text)+2; offset++ {
		for _, c := range []api.Caret{at(offset), back(offset)} {
			for do := -1; do <= api.Redo+1; do++ {
				d.checkMove(t, s, l, do, c, 0)
			}
			for _, goal := range goals {
				d.checkMove(t, s, l, api.Up, c, goal)
				d.checkMove(t, s, l, api.Down, c, goal)
			}
		}
	}
}

func (d drawn) checkSelects(t *testing.T, s api.Setup, l *caret.Layout, numbers []int) {
	t.Helper()
	for _, a := range numbers {
		for _, b := range numbers {
			if got, want := l.Select(a, b), d.selectOf(a, b); !slices.Equal(got, want) {
				t.Fatalf("P21: %+q, base %d, widths %v, breaks %v: Select(%d, %d) = %v, want %v", s.Text, s.Base, s.Widths, s.Breaks, a, b, got, want)
			}
		}
	}
}

// Each way to break each short text in two directions, and each pair of bytes there.
func TestMovesInShortTexts(t *testing.T) {
	known := bothTables(t)
	for _, words := range []string{"L R WS EN", "L R NSM S", "R RLI PDI AN"} {
		for text := range allTexts(spelled(words), 4) {
			var numbers []int
			for n := -1; n <= len(text)+1; n++ {
				numbers = append(numbers, n)
			}
			for s := range brokenAnyWay(text, known) {
				d, l := drawnByRules(s, known), lay(t, s)
				d.checkMoves(t, s, l, []int64{14, math.MaxInt64})
				d.checkSelects(t, s, l, numbers)
			}
		}
	}
}

func TestMovesInManyTexts(t *testing.T) {
	known := bothTables(t)
	chance := dice(23)
	for _, parts := range [][]string{runners, pieces, spelled("L R EN WS"), spelled("L R AN NSM S BN PDI RLI")} {
		for range 60 {
			s := chance.anySetup(without(parts, known), 40, true, known)
			d, l := drawnByRules(s, known), lay(t, s)
			end := d.lines[0].X[len(d.lines[0].X)-1]
			d.checkMoves(t, s, l, []int64{math.MinInt64, -1, 1, 5, end / 2, end - 1, end, 1 << 31, math.MaxInt64})
			numbers := []int{math.MinInt, math.MaxInt}
			for range 12 {
				numbers = append(numbers, chance.below(len(s.Text)+3)-1)
			}
			d.checkSelects(t, s, l, numbers)
		}
	}
}

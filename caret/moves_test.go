package caret_test

import (
	"math"
	"slices"
	"testing"

	"caret/api"
	"caret/caret"
)

// moving: what is done to a caret, and where it goes.
type moving struct {
	do    int
	from  api.Caret
	goal  int64
	want  api.Caret
	moved bool
}

func moves(do int, from, want api.Caret) moving { return moving{do, from, 0, want, true} }

func stays(do int, from, want api.Caret) moving { return moving{do, from, 0, want, false} }

func checkMoves(t *testing.T, what string, l *caret.Layout, cases []moving) {
	t.Helper()
	for _, c := range cases {
		if got, moved := l.Move(c.do, c.from, c.goal); got != c.want || moved != c.moved {
			t.Errorf("P18 to P20: %s: Move(%d, %v, %d) = %v, %v, want %v, %v", what, c.do, c.from, c.goal, got, moved, c.want, c.moved)
		}
	}
}

// threeLines: clusters of 10 on the lines a b, R R WS and a R.
func threeLines(t *testing.T, base int) *caret.Layout {
	return lay(t, set("a b | R R WS | a R", base))
}

func TestLeftAndRightGoFromGapToGap(t *testing.T) {
	checkMoves(t, "the document's example", lay(t, set("a b R R", 0)), []moving{
		moves(api.Right, at(0), back(1)), moves(api.Right, back(1), back(2)), moves(api.Right, back(2), at(4)), moves(api.Right, at(4), at(2)), stays(api.Right, at(2), at(2)),
		moves(api.Left, at(2), at(4)), moves(api.Left, at(4), back(2)), moves(api.Left, back(2), back(1)), moves(api.Left, back(1), at(0)), stays(api.Left, at(0), at(0)),
		moves(api.Right, at(1), back(2)), moves(api.Left, at(1), at(0)), moves(api.Right, back(4), at(2)), moves(api.Left, back(4), back(2)), moves(api.Right, back(6), at(4)), moves(api.Left, back(6), back(1)),
	})
	checkMoves(t, "from the left", fromLeft(t), []moving{
		moves(api.Right, at(3), back(4)), moves(api.Left, at(3), back(1)), moves(api.Right, back(3), at(1)), moves(api.Left, back(3), at(0)),
		moves(api.Right, at(6), back(7)), moves(api.Left, at(6), back(6)),
	})
	checkMoves(t, "from the right", fromRight(t), []moving{
		moves(api.Right, at(2), back(3)), moves(api.Left, at(2), back(5)), moves(api.Right, back(2), at(0)), moves(api.Left, back(2), back(3)),
		moves(api.Right, at(5), back(6)), moves(api.Left, at(5), back(8)),
	})
}

func TestLeftAndRightGoOnOnAnotherLine(t *testing.T) {
	checkMoves(t, "from the left", fromLeft(t), []moving{
		moves(api.Right, back(4), back(6)), moves(api.Left, back(6), back(4)), stays(api.Left, at(0), at(0)), stays(api.Right, back(7), back(7)),
	})
	checkMoves(t, "from the right", fromRight(t), []moving{
		moves(api.Right, back(6), back(5)), moves(api.Left, back(5), back(6)), stays(api.Left, back(8), back(8)), stays(api.Right, at(0), at(0)),
	})
	for _, base := range []int{api.FromLeft, api.ByText} {
		checkMoves(t, "three lines from the left", threeLines(t, base), []moving{
			moves(api.Right, back(2), back(6)), moves(api.Left, back(6), back(2)), moves(api.Right, back(7), at(7)), moves(api.Left, at(7), back(7)),
			stays(api.Left, at(0), at(0)), stays(api.Right, at(8), at(8)),
		})
	}
	checkMoves(t, "three lines from the right", threeLines(t, api.FromRight), []moving{
		stays(api.Right, back(2), back(2)), moves(api.Right, at(2), at(0)), moves(api.Left, at(0), at(2)), moves(api.Right, at(7), back(8)), moves(api.Right, back(8), back(7)), moves(api.Left, back(7), back(8)), stays(api.Left, back(10), back(10)),
	})
	// By the text: from the right, as R is the first strong.
	checkMoves(t, "two lines by the text", lay(t, set("R | a", api.ByText)), []moving{
		moves(api.Right, back(3), back(2)), moves(api.Left, back(2), back(3)), stays(api.Left, at(2), at(2)), stays(api.Right, at(0), at(0)),
	})
}

// way goes on until nothing moves any more, and tells each caret that it came to.
func way(t *testing.T, l *caret.Layout, do int, from api.Caret) []api.Caret {
	t.Helper()
	out := []api.Caret{l.Place(from)}
	for range 1000 {
		next, moved := l.Move(do, from, 0)
		if !moved {
			if next != out[len(out)-1] {
				t.Errorf("P18: at the end of the way %v becomes %v", out[len(out)-1], next)
			}
			return out
		}
		out = append(out, next)
		from = next
	}
	t.Fatalf("P18: Move(%d) never comes to an end: %v", do, out[:20])
	return nil
}

func TestTheWholeWay(t *testing.T) {
	for _, c := range []struct {
		what string
		l    *caret.Layout
		want []api.Caret
	}{
		{"of no bytes", lay(t, broken("", 0)), []api.Caret{at(0)}},
		{"of no bytes", lay(t, broken("", 1)), []api.Caret{at(0)}},
		{"from the left", lay(t, set("a b c", 0)), []api.Caret{at(0), back(1), back(2), back(3)}},
		{"from the right", lay(t, set("R R R", 0)), []api.Caret{back(6), at(4), at(2), at(0)}},
		{"two lines from the left", fromLeft(t), []api.Caret{at(0), back(1), at(1), back(4), back(6), at(4), back(7)}},
		{"two lines from the right", fromRight(t), []api.Caret{back(8), at(6), back(6), back(5), at(4), back(3), back(4), at(0)}},
		{"three lines from the left", threeLines(t, 0), []api.Caret{at(0), back(1), back(2), back(6), at(4), at(2), back(7), at(7), back(8), at(8)}},
		{"three lines from the right", threeLines(t, 1), []api.Caret{back(10), at(8), back(8), back(7), at(6), at(4), at(2), at(0), back(1), back(2)}},
	} {
		if got := way(t, c.l, api.Right, c.want[0]); !slices.Equal(got, c.want) {
			t.Errorf("P18: %s: to the right %v, want %v", c.what, got, c.want)
		}
		slices.Reverse(c.want)
		if got := way(t, c.l, api.Left, c.want[0]); !slices.Equal(got, c.want) {
			t.Errorf("P18: %s: to the left %v, want %v", c.what, got, c.want)
		}
	}
}

// Through all gaps of all lines, each once, and the same way back.
func TestTheWholeWayOfManyTexts(t *testing.T) {
	known := bothTables(t)
	d := dice(19)
	for range 500 {
		s := d.anySetup(without(runners, known), 40, true, known)
		l := lay(t, s)
		var gaps []api.Gap
		lines := l.Lines()
		for i := range lines {
			if _, paragraph, _ := caret.Levels(s.Text, s.Base); paragraph == 1 {
				i = len(lines) - 1 - i
			}
			for k := range lines[i].X {
				gaps = append(gaps, gap(i, k))
			}
		}
		var want []api.Caret
		for _, g := range gaps {
			want = append(want, l.Normal(g))
		}
		if got := way(t, l, api.Right, want[0]); !slices.Equal(got, want) {
			t.Fatalf("P18: %+q, base %d, breaks %v: to the right %v, want %v", s.Text, s.Base, s.Breaks, got, want)
		}
		slices.Reverse(want)
		if got := way(t, l, api.Left, want[0]); !slices.Equal(got, want) {
			t.Fatalf("P18: %+q, base %d, breaks %v: to the left %v, want %v", s.Text, s.Base, s.Breaks, got, want)
		}
	}
}

func TestNextAndPrevGoFromBoundaryToBoundary(t *testing.T) {
	for base := range 3 {
		checkMoves(t, "a line", lay(t, set("a b R R", base)), []moving{
			moves(api.Next, at(0), back(1)), moves(api.Next, back(0), back(1)), moves(api.Next, at(1), back(2)), moves(api.Next, back(1), back(2)), moves(api.Next, at(2), back(4)), moves(api.Next, back(2), back(4)), moves(api.Next, back(4), back(6)), moves(api.Next, at(4), back(6)), stays(api.Next, back(6), back(6)), stays(api.Next, at(6), back(6)),
			moves(api.Prev, back(6), at(4)), moves(api.Prev, at(6), at(4)), moves(api.Prev, at(4), at(2)), moves(api.Prev, back(4), at(2)), moves(api.Prev, at(2), at(1)), moves(api.Prev, back(2), at(1)), moves(api.Prev, at(1), at(0)), moves(api.Prev, back(1), at(0)), stays(api.Prev, at(0), at(0)), stays(api.Prev, back(0), at(0)),
		})
		checkMoves(t, "where lines end", threeLines(t, base), []moving{
			moves(api.Next, at(1), back(2)), moves(api.Next, back(2), back(4)), moves(api.Next, at(2), back(4)), moves(api.Next, back(6), back(7)), moves(api.Next, back(7), back(8)),
			moves(api.Prev, at(4), at(2)), moves(api.Prev, back(2), at(1)), moves(api.Prev, at(2), at(1)), moves(api.Prev, at(7), at(6)), moves(api.Prev, at(8), at(7)),
		})
		checkMoves(t, "one cluster", lay(t, set("a NSM", base)), []moving{
			moves(api.Next, at(0), back(3)), moves(api.Next, back(2), back(3)), stays(api.Next, back(3), back(3)), moves(api.Prev, back(3), at(0)), stays(api.Prev, back(2), at(0)), stays(api.Prev, at(1), at(0)),
		})
	}
}

func TestHomeAndEndGoToTheEndsOfALine(t *testing.T) {
	checkMoves(t, "a line", lay(t, set("a b R R", 0)), []moving{
		moves(api.Home, back(6), at(0)), moves(api.Home, at(2), at(0)), moves(api.Home, back(2), at(0)), stays(api.Home, at(0), at(0)), stays(api.Home, back(0), at(0)),
		moves(api.End, at(0), back(6)), moves(api.End, at(2), back(6)), moves(api.End, back(2), back(6)), stays(api.End, back(6), back(6)), stays(api.End, at(6), back(6)),
	})
	for base := range 3 {
		// The lines run either way, and a paragraph may; Home and End go by the bytes.
		checkMoves(t, "three lines", threeLines(t, base), []moving{
			moves(api.Home, back(1), at(0)), moves(api.Home, back(2), at(0)), stays(api.Home, at(2), at(2)), moves(api.Home, at(4), at(2)), moves(api.Home, back(4), at(2)), moves(api.Home, back(7), at(2)), stays(api.Home, at(7), at(7)), moves(api.Home, back(8), at(7)), moves(api.Home, back(10), at(7)),
			moves(api.End, at(0), back(2)), moves(api.End, at(1), back(2)), stays(api.End, back(2), back(2)), moves(api.End, at(2), back(7)), moves(api.End, back(4), back(7)), stays(api.End, back(7), back(7)), moves(api.End, at(7), back(10)), moves(api.End, at(8), back(10)), stays(api.End, back(10), back(10)),
		})
	}
}

func TestUpAndDownGoToTheGoal(t *testing.T) {
	// Of the left one: gaps at 0 1 3 7 and at 0 8 24; of the right one: at 0 8 10 14 15 and at 0 32 48.
	checkMoves(t, "from the left", fromLeft(t), []moving{
		{api.Down, at(0), 0, back(6), true}, {api.Down, at(0), 4, back(6), true}, {api.Down, back(4), 5, at(4), true}, {api.Down, at(3), 17, back(7), true}, {api.Down, back(1), math.MaxInt64, back(7), true}, {api.Down, back(1), math.MinInt64, back(6), true},
		{api.Up, at(4), 2, back(1), true}, {api.Up, back(7), 3, at(1), true}, {api.Up, at(6), 6, back(4), true}, {api.Up, back(6), math.MinInt64, at(0), true}, {api.Up, back(6), math.MaxInt64, back(4), true},
		{api.Up, at(0), 5, at(0), false}, {api.Up, back(4), 99, back(4), false}, {api.Up, at(3), math.MinInt64, at(3), false}, {api.Down, at(4), 0, at(4), false}, {api.Down, back(7), -5, back(7), false}, {api.Down, at(7), math.MaxInt64, back(7), false},
	})
	checkMoves(t, "from the right", fromRight(t), []moving{
		{api.Down, at(0), 16, back(8), true}, {api.Down, back(5), 17, at(6), true}, {api.Down, at(4), 41, back(6), true}, {api.Down, back(3), math.MinInt64, back(8), true}, {api.Down, back(3), math.MaxInt64, back(6), true},
		{api.Up, at(5), 9, at(4), true}, {api.Up, back(8), 13, back(4), true}, {api.Up, back(6), 1 << 62, at(0), true}, {api.Up, at(6), -1 << 62, back(5), true},
		{api.Up, at(2), 0, at(2), false}, {api.Down, at(6), 0, at(6), false},
	})
	checkMoves(t, "a middle line", threeLines(t, 0), []moving{
		{api.Up, at(2), 0, at(0), true}, {api.Up, at(2), 6, back(1), true}, {api.Up, back(7), 99, back(2), true}, {api.Up, back(7), math.MaxInt64, back(2), true}, {api.Up, at(4), math.MinInt64, at(0), true},
		{api.Down, at(2), 0, at(7), true}, {api.Down, at(2), 15, back(8), true}, {api.Down, at(2), 16, at(8), true}, {api.Down, back(7), math.MaxInt64, at(8), true}, {api.Down, back(7), math.MinInt64, at(7), true},
		{api.Up, back(2), 0, back(2), false}, {api.Down, back(2), 6, at(4), true}, {api.Up, at(7), 99, back(7), true}, {api.Down, at(7), 99, at(7), false},
	})
}

func TestNothingElseMoves(t *testing.T) {
	others := []int{-1, -2, math.MinInt, api.Click, api.Set, api.Nothing, api.Insert, api.Erase, api.Delete, api.WordBack, api.WordNext, api.Undo, api.Redo, api.Redo + 1, 99, 1 << 32, 1<<32 + 1, math.MaxInt}
	for _, do := range others {
		checkMoves(t, "from the left", fromLeft(t), []moving{
			stays(do, at(0), at(0)), stays(do, back(0), at(0)), stays(do, at(1), at(1)), stays(do, back(1), back(1)), stays(do, back(2), back(1)), stays(do, at(5), at(4)), stays(do, at(7), back(7)), stays(do, at(99), back(7)), stays(do, back(-99), at(0)), {do, at(4), 99, at(4), false},
		})
		checkMoves(t, "of no bytes", lay(t, broken("", 1)), []moving{stays(do, back(1), at(0))})
	}
}

func TestMoveTakesTheCaretThatIsMeant(t *testing.T) {
	checkMoves(t, "outside of the text", fromLeft(t), []moving{
		moves(api.Right, back(-4), back(1)), stays(api.Left, back(-4), at(0)), moves(api.Next, at(-1), back(1)), stays(api.Prev, back(-1), at(0)), stays(api.Home, at(math.MinInt), at(0)), moves(api.End, back(math.MinInt), back(4)), stays(api.Up, back(-1), at(0)), moves(api.Down, back(-1), back(6)),
		stays(api.Right, at(8), back(7)), moves(api.Left, at(8), at(4)), stays(api.Next, at(math.MaxInt), back(7)), moves(api.Prev, at(math.MaxInt), at(6)), moves(api.Home, at(99), at(4)), stays(api.End, at(99), back(7)), moves(api.Up, at(99), at(0)), stays(api.Down, at(99), back(7)),
	})
	checkMoves(t, "within a cluster", fromLeft(t), []moving{
		moves(api.Right, at(2), back(4)), moves(api.Left, at(2), back(1)), moves(api.Right, back(2), at(1)), moves(api.Left, back(2), at(0)), moves(api.Next, at(2), back(3)), moves(api.Next, back(2), back(3)), moves(api.Prev, at(2), at(0)), moves(api.Prev, at(5), at(3)),
		stays(api.Home, at(5), at(4)), moves(api.Home, back(5), at(0)), moves(api.End, at(5), back(7)), stays(api.End, back(5), back(4)), moves(api.Up, at(5), at(0)), stays(api.Up, back(5), back(4)), moves(api.Down, back(5), back(6)), stays(api.Down, at(5), at(4)),
	})
	for base := range 3 {
		l := lay(t, broken("", base))
		for do := api.Left; do <= api.Down; do++ {
			for _, c := range []api.Caret{at(0), back(0), at(-1), back(1), at(math.MaxInt), back(math.MinInt)} {
				checkMoves(t, "of no bytes", l, []moving{stays(do, c, at(0)), {do, c, math.MaxInt64, at(0), false}, {do, c, math.MinInt64, at(0), false}})
			}
		}
	}
}

package caret_test

import (
	"math"
	"slices"
	"strings"
	"testing"

	"caret/api"
	"caret/caret"
)

func span(line, from, to int, left, right int64) api.Span {
	return api.Span{Line: line, From: from, To: to, Left: left, Right: right}
}

// selecting: two bytes, and what is selected between them.
type selecting struct {
	a, b int
	want []api.Span
}

// Whichever of the two bytes comes first, the same is selected.
func checkSelect(t *testing.T, what string, l *caret.Layout, cases []selecting) {
	t.Helper()
	for _, c := range cases {
		for _, got := range [][]api.Span{l.Select(c.a, c.b), l.Select(c.b, c.a)} {
			if !slices.Equal(got, c.want) {
				t.Errorf("P21: %s: Select(%d, %d) = %v, want %v", what, c.a, c.b, got, c.want)
			}
		}
	}
}

func TestSelectOnOneLine(t *testing.T) {
	all := []api.Span{span(0, 0, 4, 0, 40)}
	checkSelect(t, "the document's example", lay(t, set("a b R R", 0)), []selecting{
		{1, 4, []api.Span{span(0, 1, 2, 10, 20), span(0, 3, 4, 30, 40)}},
		{0, 1, []api.Span{span(0, 0, 1, 0, 10)}}, {0, 2, []api.Span{span(0, 0, 2, 0, 20)}}, {2, 4, []api.Span{span(0, 3, 4, 30, 40)}}, {4, 6, []api.Span{span(0, 2, 3, 20, 30)}}, {2, 6, []api.Span{span(0, 2, 4, 20, 40)}}, {1, 6, []api.Span{span(0, 1, 4, 10, 40)}},
		{0, 4, []api.Span{span(0, 0, 2, 0, 20), span(0, 3, 4, 30, 40)}}, {0, 6, all},
	})
	checkSelect(t, "from the right", lay(t, set("R R R", 1)), []selecting{
		{0, 2, []api.Span{span(0, 2, 3, 20, 30)}}, {2, 4, []api.Span{span(0, 1, 2, 10, 20)}}, {2, 6, []api.Span{span(0, 0, 2, 0, 20)}}, {0, 6, []api.Span{span(0, 0, 3, 0, 30)}},
	})
	// As it is seen: R 1 2 R, of the clusters 3 1 2 0.
	checkSelect(t, "numbers from the right", lay(t, set("R 1 2 R", 1)), []selecting{
		{0, 3, []api.Span{span(0, 1, 2, 10, 20), span(0, 3, 4, 30, 40)}}, {3, 6, []api.Span{span(0, 0, 1, 0, 10), span(0, 2, 3, 20, 30)}}, {2, 4, []api.Span{span(0, 1, 3, 10, 30)}}, {0, 4, []api.Span{span(0, 1, 4, 10, 40)}},
	})
	// As it is seen: a R 1 2 R b, of the clusters 0 4 2 3 1 5.
	checkSelect(t, "three parts", lay(t, set("a R 1 2 R b", 0)), []selecting{
		{0, 4, []api.Span{span(0, 0, 1, 0, 10), span(0, 2, 3, 20, 30), span(0, 4, 5, 40, 50)}},
		{4, 8, []api.Span{span(0, 1, 2, 10, 20), span(0, 3, 4, 30, 40), span(0, 5, 6, 50, 60)}},
	})
}

func TestSelectOfLikeNumbers(t *testing.T) {
	l := lay(t, set("a b R R", 0))
	checkSelect(t, "at a boundary", l, []selecting{{0, 0, nil}, {1, 1, nil}, {2, 2, nil}, {4, 4, nil}, {6, 6, nil}})
	checkSelect(t, "within a cluster", l, []selecting{{3, 3, []api.Span{span(0, 3, 4, 30, 40)}}, {5, 5, []api.Span{span(0, 2, 3, 20, 30)}}})
	checkSelect(t, "outside of the text", l, []selecting{{-1, -1, nil}, {7, 7, nil}, {math.MinInt, math.MinInt, nil}, {math.MaxInt, math.MaxInt, nil}})
}

func TestSelectOutsideOfTheTextAndWithinClusters(t *testing.T) {
	all := []api.Span{span(0, 0, 4, 0, 40)}
	checkSelect(t, "outside", lay(t, set("a b R R", 0)), []selecting{
		{-1, 0, nil}, {6, 7, nil}, {-9, 1, []api.Span{span(0, 0, 1, 0, 10)}}, {99, 4, []api.Span{span(0, 2, 3, 20, 30)}}, {-1, 7, all}, {math.MinInt, math.MaxInt, all}, {math.MinInt, 2, []api.Span{span(0, 0, 2, 0, 20)}}, {math.MaxInt, 2, []api.Span{span(0, 2, 4, 20, 40)}}, {math.MinInt, -1, nil}, {math.MaxInt, 7, nil}, {1 << 32, 6, nil},
	})
	// e and its mark are the bytes 1 to 4.
	checkSelect(t, "within", lay(t, broken("xe\u0301y", 0)), []selecting{
		{1, 2, []api.Span{span(0, 1, 2, 10, 30)}}, {2, 3, []api.Span{span(0, 1, 2, 10, 30)}}, {2, 4, []api.Span{span(0, 1, 2, 10, 30)}}, {0, 2, []api.Span{span(0, 0, 2, 0, 30)}}, {3, 5, []api.Span{span(0, 1, 3, 10, 40)}}, {1, 4, []api.Span{span(0, 1, 2, 10, 30)}}, {0, 1, []api.Span{span(0, 0, 1, 0, 10)}}, {4, 5, []api.Span{span(0, 2, 3, 30, 40)}}, {2, 2, []api.Span{span(0, 1, 2, 10, 30)}}, {2, 99, []api.Span{span(0, 1, 3, 10, 40)}}, {-1, 2, []api.Span{span(0, 0, 2, 0, 30)}},
	})
	checkSelect(t, "a line's end", lay(t, broken("a\r\n", 0)), []selecting{{2, 2, []api.Span{span(0, 1, 2, 10, 30)}}, {0, 2, []api.Span{span(0, 0, 2, 0, 30)}}})
	for base := range 3 {
		checkSelect(t, "of no bytes", lay(t, broken("", base)), []selecting{{0, 0, nil}, {-1, 9, nil}, {math.MinInt, math.MaxInt, nil}, {1, 1, nil}})
	}
}

func TestSelectOverSeveralLines(t *testing.T) {
	// The lines a b, R R WS and a R; as they are seen from the left: the clusters 0 1, 3 2 4 and 5 6.
	l := threeLines(t, 0)
	checkSelect(t, "three lines from the left", l, []selecting{
		{0, 2, []api.Span{span(0, 0, 2, 0, 20)}}, {2, 7, []api.Span{span(1, 0, 3, 0, 30)}}, {7, 10, []api.Span{span(2, 0, 2, 0, 20)}},
		{1, 4, []api.Span{span(0, 1, 2, 10, 20), span(1, 1, 2, 10, 20)}}, {4, 8, []api.Span{span(1, 0, 1, 0, 10), span(1, 2, 3, 20, 30), span(2, 0, 1, 0, 10)}},
		{1, 8, []api.Span{span(0, 1, 2, 10, 20), span(1, 0, 3, 0, 30), span(2, 0, 1, 0, 10)}}, {0, 10, []api.Span{span(0, 0, 2, 0, 20), span(1, 0, 3, 0, 30), span(2, 0, 2, 0, 20)}},
		{2, 2, nil}, {7, 7, nil}, {3, 3, []api.Span{span(1, 1, 2, 10, 20)}}, {1, 3, []api.Span{span(0, 1, 2, 10, 20), span(1, 1, 2, 10, 20)}},
	})
	// From the right: the clusters 0 1, 4 3 2 and 6 5.
	checkSelect(t, "three lines from the right", threeLines(t, 1), []selecting{
		{1, 4, []api.Span{span(0, 1, 2, 10, 20), span(1, 2, 3, 20, 30)}}, {4, 8, []api.Span{span(1, 0, 2, 0, 20), span(2, 1, 2, 10, 20)}},
		{0, 10, []api.Span{span(0, 0, 2, 0, 20), span(1, 0, 3, 0, 30), span(2, 0, 2, 0, 20)}},
	})
	checkSelect(t, "two lines of many widths", fromLeft(t), []selecting{
		{1, 6, []api.Span{span(0, 1, 3, 1, 7), span(1, 0, 1, 0, 8)}}, {3, 7, []api.Span{span(0, 2, 3, 3, 7), span(1, 0, 2, 0, 24)}}, {4, 6, []api.Span{span(1, 0, 1, 0, 8)}},
	})
}

func TestSelectOfClustersWithoutAWidth(t *testing.T) {
	s := set("a b R R", 0)
	s.Widths = []int{0, 0, 0, 7}
	checkSelect(t, "some", lay(t, s), []selecting{
		{0, 1, []api.Span{span(0, 0, 1, 0, 0)}}, {1, 4, []api.Span{span(0, 1, 2, 0, 0), span(0, 3, 4, 7, 7)}}, {0, 6, []api.Span{span(0, 0, 4, 0, 7)}}, {2, 2, nil},
	})
	s.Widths = []int{0, 0, 0, 0}
	checkSelect(t, "all", lay(t, s), []selecting{{1, 4, []api.Span{span(0, 1, 2, 0, 0), span(0, 3, 4, 0, 0)}}, {0, 6, []api.Span{span(0, 0, 4, 0, 0)}}})
}

func TestSelectOfGreatWidths(t *testing.T) {
	s := broken(strings.Repeat("a", 400), 0)
	for i := range s.Widths {
		s.Widths[i] = 1 << 30
	}
	checkSelect(t, "great widths", lay(t, s), []selecting{{1, 400, []api.Span{span(0, 1, 400, 1<<30, 400<<30)}}})
}

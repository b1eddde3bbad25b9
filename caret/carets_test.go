package caret_test

import (
	"math"
	"testing"

	"caret/api"
	"caret/caret"
)

func at(offset int) api.Caret { return api.Caret{Offset: offset} }

func back(offset int) api.Caret { return api.Caret{Offset: offset, Back: true} }

func gap(line, gap int) api.Gap { return api.Gap{Line: line, Gap: gap} }

// fromLeft: on two lines the clusters a R WS and R a, as they are seen; each as wide as no sum of others.
func fromLeft(t *testing.T) *caret.Layout {
	s := set("a R WS | R a", api.FromLeft)
	s.Widths = []int{1, 2, 4, 8, 16}
	return lay(t, s)
}

// fromRight: on two lines the clusters R 1 1 WS and a R; as they are seen: WS 1 1 R and R a.
func fromRight(t *testing.T) *caret.Layout {
	s := set("R 1 1 WS | a R", api.FromRight)
	s.Widths = []int{1, 2, 4, 8, 16, 32}
	return lay(t, s)
}

func TestPlaceIsTheCaretThatIsMeant(t *testing.T) {
	for _, c := range []struct {
		text     string
		at, want api.Caret
	}{
		{"", at(0), at(0)}, {"", back(0), at(0)}, {"", at(-1), at(0)}, {"", back(1), at(0)}, {"", back(math.MaxInt), at(0)}, {"", back(math.MinInt), at(0)},
		{"a", at(0), at(0)}, {"a", back(0), at(0)}, {"a", at(1), back(1)}, {"a", back(1), back(1)}, {"a", at(2), back(1)}, {"a", back(-1), at(0)},
		{"ab", at(1), at(1)}, {"ab", back(1), back(1)}, {"ab", at(2), back(2)}, {"ab", back(-7), at(0)}, {"ab", at(7), back(2)},
		{"\u05D0\u05D1", at(1), at(0)}, {"\u05D0\u05D1", back(1), at(0)}, {"\u05D0\u05D1", at(2), at(2)}, {"\u05D0\u05D1", back(2), back(2)}, {"\u05D0\u05D1", at(3), at(2)}, {"\u05D0\u05D1", back(3), back(2)}, {"\u05D0\u05D1", at(4), back(4)},
		{"xe\u0301y", at(1), at(1)}, {"xe\u0301y", at(2), at(1)}, {"xe\u0301y", back(2), back(1)}, {"xe\u0301y", at(3), at(1)}, {"xe\u0301y", back(4), back(4)}, {"xe\u0301y", at(4), at(4)}, {"xe\u0301y", at(5), back(5)},
		{"e\u0301", back(1), at(0)}, {"e\u0301", back(2), at(0)}, {"e\u0301", at(3), back(3)},
		{"xe\u0301y", at(math.MinInt), at(0)}, {"xe\u0301y", back(math.MinInt), at(0)}, {"xe\u0301y", at(math.MaxInt), back(5)}, {"xe\u0301y", at(1 << 32), back(5)},
		{"a\r\n", at(2), at(1)}, {"a\r\n", back(2), back(1)}, {"a\r\n", at(3), back(3)},
	} {
		for base := range 3 {
			if got := lay(t, broken(c.text, base)).Place(c.at); got != c.want {
				t.Errorf("P13: %+q: Place(%v) = %v, want %v", c.text, c.at, got, c.want)
			}
		}
	}
	l := fromLeft(t)
	for _, c := range []api.Caret{at(4), back(4)} {
		if got := l.Place(c); got != c {
			t.Errorf("P13: where a line ends: Place(%v) = %v", c, got)
		}
	}
}

// standing: a caret, its gap, and where that stands.
type standing struct {
	at   api.Caret
	want api.Gap
	x    int64
}

func checkStanding(t *testing.T, what string, l *caret.Layout, cases []standing) {
	t.Helper()
	for _, c := range cases {
		if got := l.Gap(c.at); got != c.want {
			t.Errorf("P14: %s: Gap(%v) = %v, want %v", what, c.at, got, c.want)
		}
		if got := l.X(c.at); got != c.x {
			t.Errorf("P16: %s: X(%v) = %d, want %d", what, c.at, got, c.x)
		}
	}
}

func TestGapIsWhereACaretStands(t *testing.T) {
	checkStanding(t, "the document's example", lay(t, set("a b R R", 0)), []standing{{back(2), gap(0, 2), 20}, {at(2), gap(0, 4), 40}})
	checkStanding(t, "from the left", fromLeft(t), []standing{
		{at(0), gap(0, 0), 0}, {back(1), gap(0, 1), 1}, {at(1), gap(0, 2), 3}, {back(3), gap(0, 1), 1}, {at(3), gap(0, 2), 3}, {back(4), gap(0, 3), 7},
		{at(4), gap(1, 1), 8}, {back(6), gap(1, 0), 0}, {at(6), gap(1, 1), 8}, {back(7), gap(1, 2), 24},
		{back(0), gap(0, 0), 0}, {at(2), gap(0, 2), 3}, {back(2), gap(0, 1), 1}, {at(5), gap(1, 1), 8}, {back(5), gap(0, 3), 7},
		{at(7), gap(1, 2), 24}, {at(99), gap(1, 2), 24}, {back(-99), gap(0, 0), 0}, {at(math.MinInt), gap(0, 0), 0}, {at(math.MaxInt), gap(1, 2), 24},
	})
	checkStanding(t, "from the right", fromRight(t), []standing{
		{at(0), gap(0, 4), 15}, {back(2), gap(0, 3), 14}, {at(2), gap(0, 1), 8}, {back(3), gap(0, 2), 10}, {at(3), gap(0, 2), 10}, {back(4), gap(0, 3), 14}, {at(4), gap(0, 1), 8}, {back(5), gap(0, 0), 0},
		{at(5), gap(1, 1), 32}, {back(6), gap(1, 2), 48}, {at(6), gap(1, 1), 32}, {back(8), gap(1, 0), 0},
		{back(0), gap(0, 4), 15}, {back(1), gap(0, 4), 15}, {at(8), gap(1, 0), 0}, {at(7), gap(1, 1), 32}, {back(7), gap(1, 2), 48}, {back(-1), gap(0, 4), 15}, {at(9), gap(1, 0), 0},
	})
	for base := range 3 {
		checkStanding(t, "of no bytes", lay(t, broken("", base)), []standing{{at(0), gap(0, 0), 0}, {back(0), gap(0, 0), 0}, {at(-1), gap(0, 0), 0}, {back(1), gap(0, 0), 0}})
	}
}

// normal: a gap, and its caret.
type normal struct {
	gap  api.Gap
	want api.Caret
}

func checkNormal(t *testing.T, what string, l *caret.Layout, cases []normal) {
	t.Helper()
	for _, c := range cases {
		if got := l.Normal(c.gap); got != c.want {
			t.Errorf("P15: %s: Normal(%v) = %v, want %v", what, c.gap, got, c.want)
		}
	}
}

func TestNormalIsTheCaretOfAGap(t *testing.T) {
	checkNormal(t, "the document's example", lay(t, set("a b R R", 0)), []normal{{gap(0, 2), back(2)}, {gap(0, 3), at(4)}, {gap(0, 4), at(2)}})
	checkNormal(t, "from the left", fromLeft(t), []normal{
		{gap(0, 0), at(0)}, {gap(0, 1), back(1)}, {gap(0, 2), at(1)}, {gap(0, 3), back(4)},
		{gap(1, 0), back(6)}, {gap(1, 1), at(4)}, {gap(1, 2), back(7)},
	})
	checkNormal(t, "from the right", fromRight(t), []normal{
		{gap(0, 0), back(5)}, {gap(0, 1), at(4)}, {gap(0, 2), back(3)}, {gap(0, 3), back(4)}, {gap(0, 4), at(0)},
		{gap(1, 0), back(8)}, {gap(1, 1), at(6)}, {gap(1, 2), back(6)},
	})
}

func TestNormalTakesTheNearestLineAndGap(t *testing.T) {
	checkNormal(t, "from the left", fromLeft(t), []normal{
		{gap(0, -1), at(0)}, {gap(0, 4), back(4)}, {gap(0, math.MinInt), at(0)}, {gap(0, math.MaxInt), back(4)}, {gap(1, -1), back(6)}, {gap(1, 3), back(7)},
		{gap(-1, 1), back(1)}, {gap(2, 1), at(4)}, {gap(math.MinInt, 2), at(1)}, {gap(math.MaxInt, 0), back(6)},
		{gap(-1, -1), at(0)}, {gap(9, 9), back(7)}, {gap(-1, 9), back(4)}, {gap(9, -1), back(6)}, {gap(1<<32, 1<<32), back(7)},
	})
	for base := range 3 {
		checkNormal(t, "of no bytes", lay(t, broken("", base)), []normal{{gap(0, 0), at(0)}, {gap(-1, -1), at(0)}, {gap(1, 1), at(0)}, {gap(math.MaxInt, math.MinInt), at(0)}})
	}
}

// hit: a place on a line, and its caret.
type hit struct {
	line int
	x    int64
	want api.Caret
}

func checkHit(t *testing.T, what string, l *caret.Layout, cases []hit) {
	t.Helper()
	for _, c := range cases {
		if got := l.Hit(c.line, c.x); got != c.want {
			t.Errorf("P17: %s: Hit(%d, %d) = %v, want %v", what, c.line, c.x, got, c.want)
		}
	}
}

func TestHitIsTheNearestGap(t *testing.T) {
	// Gaps at 0 1 3 7 and at 0 8 24.
	checkHit(t, "from the left", fromLeft(t), []hit{
		{0, 0, at(0)}, {0, 1, back(1)}, {0, 2, back(1)}, {0, 3, at(1)}, {0, 4, at(1)}, {0, 5, at(1)}, {0, 6, back(4)}, {0, 7, back(4)}, {0, 8, back(4)},
		{1, 0, back(6)}, {1, 3, back(6)}, {1, 4, back(6)}, {1, 5, at(4)}, {1, 8, at(4)}, {1, 15, at(4)}, {1, 16, at(4)}, {1, 17, back(7)}, {1, 24, back(7)},
	})
	// Gaps at 0 8 10 14 15 and at 0 32 48.
	checkHit(t, "from the right", fromRight(t), []hit{
		{0, -1, back(5)}, {0, 4, back(5)}, {0, 5, at(4)}, {0, 9, at(4)}, {0, 10, back(3)}, {0, 12, back(3)}, {0, 13, back(4)}, {0, 14, back(4)}, {0, 15, at(0)}, {0, 16, at(0)},
		{1, 0, back(8)}, {1, 16, back(8)}, {1, 17, at(6)}, {1, 40, at(6)}, {1, 41, back(6)},
	})
}

func TestHitFarAway(t *testing.T) {
	checkHit(t, "lines and places that there are not", fromLeft(t), []hit{
		{0, math.MinInt64, at(0)}, {0, math.MinInt64 + 1, at(0)}, {0, math.MaxInt64, back(4)}, {1, math.MinInt64, back(6)}, {1, math.MaxInt64, back(7)}, {0, -1 << 62, at(0)}, {0, 1 << 62, back(4)},
		{-1, 1, back(1)}, {2, 8, at(4)}, {math.MinInt, 3, at(1)}, {math.MaxInt, 0, back(6)}, {1 << 32, 24, back(7)}, {-1, math.MaxInt64, back(4)}, {9, math.MinInt64, back(6)},
	})
	s := set("R R R", 1)
	s.Widths = []int{1 << 30, 1 << 30, 1 << 30}
	checkHit(t, "great widths", lay(t, s), []hit{
		{0, math.MinInt64, back(6)}, {0, math.MaxInt64, at(0)}, {0, 1 << 29, back(6)}, {0, 1<<29 + 1, at(4)}, {0, 3<<29 + 1, at(2)}, {0, 5 << 29, at(2)}, {0, 5<<29 + 1, at(0)},
	})
	for base := range 3 {
		checkHit(t, "of no bytes", lay(t, broken("", base)), []hit{{0, 0, at(0)}, {0, 1, at(0)}, {-1, -1, at(0)}, {1, math.MaxInt64, at(0)}, {math.MaxInt, math.MinInt64, at(0)}})
	}
}

func TestHitOfClustersWithoutAWidth(t *testing.T) {
	for _, c := range []struct {
		words  string
		widths []int
		hits   []hit
	}{
		{"L L L", []int{0, 0, 0}, []hit{{0, -1, at(0)}, {0, 0, at(0)}, {0, 1, at(0)}, {0, math.MaxInt64, at(0)}, {0, math.MinInt64, at(0)}}},
		{"L L L", []int{0, 0, 5}, []hit{{0, -1, at(0)}, {0, 0, at(0)}, {0, 2, at(0)}, {0, 3, back(3)}, {0, 9, back(3)}}},
		{"L L L", []int{5, 0, 0}, []hit{{0, 2, at(0)}, {0, 3, back(1)}, {0, 5, back(1)}, {0, 6, back(1)}, {0, math.MaxInt64, back(1)}}},
		{"L L L", []int{4, 0, 4}, []hit{{0, 2, at(0)}, {0, 3, back(1)}, {0, 4, back(1)}, {0, 6, back(1)}, {0, 7, back(3)}}},
		{"R R R", []int{5, 0, 0}, []hit{{0, 0, back(6)}, {0, 2, back(6)}, {0, 3, at(0)}}},
		{"R R R", []int{0, 0, 5}, []hit{{0, 0, back(6)}, {0, 2, back(6)}, {0, 3, at(4)}, {0, 5, at(4)}, {0, math.MaxInt64, at(4)}}},
	} {
		s := set(c.words, 0)
		s.Widths = c.widths
		checkHit(t, c.words, lay(t, s), c.hits)
	}
}

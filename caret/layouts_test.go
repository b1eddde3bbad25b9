package caret_test

import (
	"iter"
	"math"
	"math/big"
	"slices"
	"testing"

	"caret/api"
	"caret/caret"
)

// tables: what is known of runes, read from the document's rows.
type tables struct {
	classes map[rune]api.Class
	kinds   map[rune]api.Kind
}

func bothTables(t *testing.T) tables { return tables{wantedClasses(t), wantedKinds(t)} }

// drawn: a layout as the document's sentences say it; which line each cluster stands on, and at which place there; the paragraph's level.
type drawn struct {
	clusters    []api.Cluster
	lines       []api.Line
	line, place []int
	paragraph   int
}

func drawnByRules(s api.Setup, known tables) drawn {
	bounds := boundsByRules(s.Text, known.kinds)
	levels, paragraph := levelsByRules(s.Text, s.Base, known.classes)
	d := drawn{paragraph: paragraph}
	from := 0
	for _, to := range append(slices.Clone(s.Breaks), len(s.Text)) {
		line := api.Line{From: from, To: to, X: []int64{0}}
		var numbers []int
		for i, b := range bounds[1:] {
			if bounds[i] >= from && b <= to {
				numbers = append(numbers, i)
				d.clusters = append(d.clusters, clusterByRules(s, bounds[i], b, line, levels, paragraph, known))
			}
		}
		line.Order = d.seen(numbers, 0)
		for _, n := range line.Order {
			line.X = append(line.X, line.X[len(line.X)-1]+d.clusters[n].Width)
		}
		d.lines = append(d.lines, line)
		from = to
	}
	d.line, d.place = make([]int, len(d.clusters)), make([]int, len(d.clusters))
	for i, line := range d.lines {
		for k, n := range line.Order {
			d.line[n], d.place[n] = i, k
		}
	}
	return d
}

func clusterByRules(s api.Setup, from, to int, line api.Line, levels []int, paragraph int, known tables) api.Cluster {
	c := api.Cluster{From: from, To: to}
	number := 0
	for offset := range s.Text {
		if offset == from {
			c.Level = levels[number]
			if endsByRules(s.Text[from:line.To], known) {
				c.Level = paragraph
			}
		}
		if offset >= from && offset < to {
			c.Width += int64(s.Widths[number])
		}
		number++
	}
	return c
}

// endsByRules: of what is left of a line, has the first rune the paragraph's level?
func endsByRules(rest string, known tables) bool {
	for _, r := range rest {
		class := known.classes[r]
		if among(class, api.S, api.B) {
			return true
		}
		if !among(class, api.WS, api.PDI) && !isInitiator(class) && !isPassedOver(class) {
			return false
		}
	}
	return true
}

// seen: what has just this level, and between that what is deeper, as it is seen: from left to right, if the level is even, else from right to left.
func (d drawn) seen(numbers []int, level int) []int {
	if level > 10 {
		return nil
	}
	var parts [][]int
	for i := 0; i < len(numbers); i++ {
		j := i
		for j < len(numbers) && d.clusters[numbers[j]].Level > level {
			j++
		}
		if j > i {
			parts = append(parts, d.seen(numbers[i:j], level+1))
		}
		if j < len(numbers) {
			parts = append(parts, numbers[j:j+1])
		}
		i = j
	}
	if level%2 == 1 {
		slices.Reverse(parts)
	}
	return slices.Concat(parts...)
}

func (d drawn) placeOf(c api.Caret) api.Caret {
	end, down := 0, 0
	for _, k := range d.clusters {
		end = k.To
	}
	offset := min(max(c.Offset, 0), end)
	for _, k := range d.clusters {
		for _, b := range []int{k.From, k.To} {
			if b <= offset {
				down = max(down, b)
			}
		}
	}
	return api.Caret{Offset: down, Back: down > 0 && (c.Back || down == end)}
}

func (d drawn) gapOf(c api.Caret) api.Gap {
	c = d.placeOf(c)
	for i, k := range d.clusters {
		switch {
		case c.Back && k.To == c.Offset && k.Level%2 == 0, !c.Back && k.From == c.Offset && k.Level%2 == 1:
			return api.Gap{Line: d.line[i], Gap: d.place[i] + 1}
		case c.Back && k.To == c.Offset, !c.Back && k.From == c.Offset:
			return api.Gap{Line: d.line[i], Gap: d.place[i]}
		}
	}
	return api.Gap{}
}

func (d drawn) normalOf(g api.Gap) api.Caret {
	order := d.lines[min(max(g.Line, 0), len(d.lines)-1)].Order
	if len(order) == 0 {
		return api.Caret{}
	}
	if g.Gap <= 0 {
		if k := d.clusters[order[0]]; k.Level%2 == 1 {
			return api.Caret{Offset: k.To, Back: true}
		}
		return api.Caret{Offset: d.clusters[order[0]].From}
	}
	k := d.clusters[order[min(g.Gap, len(order))-1]]
	if k.Level%2 == 0 {
		return api.Caret{Offset: k.To, Back: true}
	}
	return api.Caret{Offset: k.From}
}

func (d drawn) hitOf(line int, x int64) api.Caret {
	line = min(max(line, 0), len(d.lines)-1)
	nearest, least := 0, new(big.Int)
	for gap, at := range d.lines[line].X {
		away := new(big.Int).Sub(big.NewInt(at), big.NewInt(x))
		if away.Abs(away); gap == 0 || away.Cmp(least) < 0 {
			nearest, least = gap, away
		}
	}
	return d.normalOf(api.Gap{Line: line, Gap: nearest})
}

func checkLayout(t *testing.T, s api.Setup, known tables) {
	t.Helper()
	d := drawnByRules(s, known)
	l := lay(t, s)
	if got := l.Clusters(); !slices.Equal(got, d.clusters) {
		t.Fatalf("P11: %+q, base %d, widths %v, breaks %v: clusters %v, want %v", s.Text, s.Base, s.Widths, s.Breaks, got, d.clusters)
	}
	if got := l.Lines(); !slices.EqualFunc(got, d.lines, equalLines) {
		t.Fatalf("P12: %+q, base %d, widths %v, breaks %v: lines %v, want %v", s.Text, s.Base, s.Widths, s.Breaks, got, d.lines)
	}
	d.checkCarets(t, s, l)
	d.checkGaps(t, s, l)
}

func equalLines(a, b api.Line) bool {
	return a.From == b.From && a.To == b.To && slices.Equal(a.Order, b.Order) && slices.Equal(a.X, b.X)
}

func (d drawn) checkCarets(t *testing.T, s api.Setup, l *caret.Layout) {
	t.Helper()
	for offset := -2; offset <= len(s.Text)+2; offset++ {
		for _, c := range []api.Caret{at(offset), back(offset)} {
			gap := d.gapOf(c)
			if p, g, x := l.Place(c), l.Gap(c), l.X(c); p != d.placeOf(c) || g != gap || x != d.lines[gap.Line].X[gap.Gap] {
				t.Fatalf("P13, P14, P16: %+q, base %d, breaks %v, %v: Place %v, Gap %v, X %d, want %v, %v", s.Text, s.Base, s.Breaks, c, p, g, x, d.placeOf(c), gap)
			}
		}
	}
}

func (d drawn) checkGaps(t *testing.T, s api.Setup, l *caret.Layout) {
	t.Helper()
	for line := -1; line <= len(d.lines); line++ {
		row := d.lines[min(max(line, 0), len(d.lines)-1)]
		for gap := -1; gap <= len(row.Order)+1; gap++ {
			g := api.Gap{Line: line, Gap: gap}
			if got := l.Normal(g); got != d.normalOf(g) {
				t.Fatalf("P15: %+q, base %d, breaks %v: Normal(%v) = %v, want %v", s.Text, s.Base, s.Breaks, g, got, d.normalOf(g))
			}
		}
		places := []int64{math.MinInt64, math.MaxInt64}
		for i, x := range row.X {
			middle := (x + row.X[max(i-1, 0)]) / 2
			places = append(places, x-1, x, x+1, middle-1, middle, middle+1)
		}
		for _, x := range places {
			if got := l.Hit(line, x); got != d.hitOf(line, x) {
				t.Fatalf("P17: %+q, base %d, widths %v, breaks %v: Hit(%d, %d) = %v, want %v", s.Text, s.Base, s.Widths, s.Breaks, line, x, got, d.hitOf(line, x))
			}
		}
	}
}

// brokenAnyWay: from each base, each way to break a text, as far as New takes it.
func brokenAnyWay(text string, known tables) iter.Seq[api.Setup] {
	return func(yield func(api.Setup) bool) {
		bounds := boundsByRules(text, known.kinds)
		ways := 1 << max(len(bounds)-2, 0)
		for way := range ways * 3 {
			s := broken(text, way/ways)
			for i := range max(len(bounds)-2, 0) {
				if way>>i&1 == 1 {
					s.Breaks = append(s.Breaks, bounds[i+1])
				}
			}
			if faultByRules(s, known) == api.OK && !yield(s) {
				return
			}
		}
	}
}

func TestLayoutsOfShortTexts(t *testing.T) {
	known := bothTables(t)
	for _, words := range []string{"L R WS EN", "L R S BN", "R RLO PDF WS", "R LRI PDI WS", "L R NSM B", "RLE AN LRE L"} {
		for text := range allTexts(spelled(words), 4) {
			for s := range brokenAnyWay(text, known) {
				checkLayout(t, s, known)
			}
		}
	}
}

func TestLayoutsOfManyTexts(t *testing.T) {
	known := bothTables(t)
	d := dice(3)
	deep := spelled("L LRE RLE LRO RLO LRI RLI FSI RLE RLI PDF PDI EN R WS S NSM")
	for _, parts := range [][]string{runners, pieces, deep, spelled("L R EN WS"), spelled("L R AN NSM S BN PDI")} {
		for range 400 {
			s := d.anySetup(parts, 30, true, known)
			if faultByRules(s, known) == api.OK {
				checkLayout(t, s, known)
			}
			s = d.anySetup(without(parts, known), 60, true, known)
			s.Text += []string{"", "\n", "\r\n"}[d.below(3)]
			s.Widths = append(s.Widths, make([]int, len([]rune(s.Text))-len(s.Widths))...)
			checkLayout(t, s, known)
		}
	}
}

// without: the parts in which no paragraph ends.
func without(parts []string, known tables) []string {
	return slices.DeleteFunc(slices.Clone(parts), func(part string) bool {
		return known.classes[[]rune(part)[0]] == api.B
	})
}

// There and back again: each gap has a caret that stands there.
func TestNormalStandsAtItsGap(t *testing.T) {
	known := bothTables(t)
	d := dice(5)
	for range 500 {
		s := d.anySetup(without(runners, known), 40, true, known)
		l := lay(t, s)
		for i, line := range l.Lines() {
			for gap := range line.X {
				g := api.Gap{Line: i, Gap: gap}
				c := l.Normal(g)
				if len(line.Order) > 0 && (l.Gap(c) != g || l.Place(c) != c || l.X(c) != line.X[gap]) {
					t.Fatalf("P15: %+q: Normal(%v) = %v, that stands at %v", s.Text, g, c, l.Gap(c))
				}
			}
		}
	}
}

package caret_test

import (
	"math"
	"slices"
	"sync"
	"testing"

	"caret/api"
	"caret/caret"
)

// told: what each call on a layout answers.
type told struct {
	clusters []api.Cluster
	lines    []api.Line
	places   []api.Caret
	gaps     []api.Gap
	xs       []int64
	normals  []api.Caret
	hits     []api.Caret
	moves    []api.Caret
	moved    []bool
	selects  [][]api.Span
}

// Numbers of each size, on both sides of 0.
func farNumbers() []int {
	list := []int{0, math.MinInt, math.MaxInt}
	for bit := range 63 {
		list = append(list, 1<<bit, -1<<bit, 1<<bit-1, -1<<bit+1)
	}
	return list
}

func tell(l *caret.Layout, numbers []int) told {
	a := told{clusters: l.Clusters(), lines: l.Lines()}
	for i, n := range numbers {
		other := numbers[len(numbers)-1-i]
		for _, c := range []api.Caret{at(n), back(n)} {
			a.places = append(a.places, l.Place(c))
			a.gaps = append(a.gaps, l.Gap(c))
			a.xs = append(a.xs, l.X(c))
		}
		for _, m := range []int{0, n, other} {
			a.normals = append(a.normals, l.Normal(gap(n, m)), l.Normal(gap(m, n)))
			a.hits = append(a.hits, l.Hit(n, int64(m)), l.Hit(m, int64(n)))
			a.selects = append(a.selects, l.Select(n, m), l.Select(m, n))
		}
		a.move(l, n, other)
	}
	return a
}

// move does each thing that Move knows, and one that it may not know.
func (a *told) move(l *caret.Layout, number, other int) {
	for _, do := range []int{api.Left, api.Right, api.Next, api.Prev, api.Home, api.End, api.Up, api.Down, api.Click, number} {
		for _, c := range []api.Caret{at(number), back(number), at(other)} {
			to, moved := l.Move(do, c, int64(other))
			a.moves, a.moved = append(a.moves, to), append(a.moved, moved)
		}
	}
}

func (a told) equal(b told) bool {
	return slices.Equal(a.clusters, b.clusters) && slices.EqualFunc(a.lines, b.lines, equalLines) &&
		slices.Equal(a.places, b.places) && slices.Equal(a.gaps, b.gaps) && slices.Equal(a.xs, b.xs) &&
		slices.Equal(a.normals, b.normals) && slices.Equal(a.hits, b.hits) &&
		slices.Equal(a.moves, b.moves) && slices.Equal(a.moved, b.moved) && slices.EqualFunc(a.selects, b.selects, slices.Equal)
}

// spoil does to an answer what a caller may do to it.
func (a *told) spoil() {
	for i := range a.clusters {
		a.clusters[i] = api.Cluster{From: -1, To: -1, Level: -1, Width: -1}
	}
	a.clusters = append(a.clusters, api.Cluster{})
	for i := range a.lines {
		spoilLine(&a.lines[i])
		a.lines[i] = api.Line{From: -1, To: -1}
	}
	a.lines = append(a.lines, api.Line{})
	for i, spans := range a.selects {
		for k := range spans {
			spans[k] = api.Span{Line: -1, From: -1, To: -1, Left: -1, Right: -1}
		}
		a.selects[i] = append(spans, api.Span{})
	}
}

func spoilLine(line *api.Line) {
	line.Order = spoilt(line.Order)
	for i := range line.X {
		line.X[i] = -1
	}
	line.X = append(line.X, -1)
}

func copyOf(s api.Setup) api.Setup {
	s.Widths, s.Breaks = slices.Clone(s.Widths), slices.Clone(s.Breaks)
	return s
}

func equalSetups(a, b api.Setup) bool {
	return a.Text == b.Text && a.Base == b.Base && slices.Equal(a.Widths, b.Widths) && slices.Equal(a.Breaks, b.Breaks)
}

func TestNoCallOnALayoutPanics(t *testing.T) {
	known := bothTables(t)
	d := dice(11)
	numbers := farNumbers()
	try := func(s api.Setup, numbers []int) {
		defer func() {
			if p := recover(); p != nil {
				t.Errorf("P1: %+q, base %d, widths %v, breaks %v: %v", s.Text, s.Base, s.Widths, s.Breaks, p)
			}
		}()
		if l, err := caret.New(s); err == api.OK {
			tell(l, numbers)
		}
	}
	for range 1000 {
		try(d.anySetup(pieces, 12, false, known), numbers)
	}
	for range 100 {
		try(d.anySetup(without(runners, known), 200, true, known), numbers)
	}
	for a := range 256 {
		for b := range 256 {
			text := string([]byte{byte(a), byte(b)})
			try(broken(text, a%3), numbers[:3])
			try(broken(text+"\xF0"+text, b%3, 1+a%4), numbers[:3])
		}
	}
	for _, n := range numbers {
		try(api.Setup{Text: "ab", Base: n, Widths: []int{1, 1}}, numbers)
		try(api.Setup{Text: "ab", Widths: []int{n, -n}, Breaks: []int{1}}, numbers)
		try(api.Setup{Text: "ab", Widths: []int{1, 1}, Breaks: []int{n, 1, -n}}, numbers)
	}
}

func TestNewLeavesItsSetupAloneAndKeepsNothingOfIt(t *testing.T) {
	known := bothTables(t)
	d := dice(13)
	numbers := []int{-1, 0, 1, 2, 3, 5, 8, 13, 400}
	for i := range 600 {
		s := d.anySetup(pieces, 12, i%2 == 0, known)
		was := copyOf(s)
		l, err := caret.New(s)
		if !equalSetups(s, was) {
			t.Fatalf("P2: New made %v of %v", s, was)
		}
		if err != api.OK {
			continue
		}
		want := tell(l, numbers)
		s.Widths, s.Breaks = spoilt(s.Widths), spoilt(s.Breaks)
		if got := tell(l, numbers); !got.equal(want) {
			t.Fatalf("P2: %+q: %v, and when the setup had been written into: %v", was.Text, want, got)
		}
		if got := tell(lay(t, was), numbers); !got.equal(want) {
			t.Fatalf("P2: %+q: %v, and of another layout: %v", was.Text, want, got)
		}
	}
}

// Where there is room behind a list, New must not write there.
func TestNewDoesNotWriteBehindItsLists(t *testing.T) {
	widths, breaks := []int{1, 2, 3, 77}, []int{1, 2, 77}
	lay(t, api.Setup{Text: "abc", Widths: widths[:3], Breaks: breaks[:2]})
	if widths[3] != 77 || breaks[2] != 77 {
		t.Errorf("P2: %v, %v", widths, breaks)
	}
}

func TestWhatALayoutTellsIsTheCallers(t *testing.T) {
	known := bothTables(t)
	d := dice(17)
	numbers := []int{-1, 0, 1, 2, 3, 5, 8, 13, 400}
	for range 300 {
		l := lay(t, d.anySetup(without(runners, known), 40, true, known))
		want, other := tell(l, numbers), tell(l, numbers)
		spoiled := tell(l, numbers)
		spoiled.spoil()
		if !other.equal(want) {
			t.Fatalf("P2: writing into one answer, %v became %v", want, other)
		}
		if again := tell(l, numbers); !again.equal(want) {
			t.Fatalf("P2: writing into an answer, the layout's %v became %v", want, again)
		}
	}
}

// Writing into the lists of one line, and growing them, must leave those of the others.
func TestListsOfAnAnswerShareNoMemory(t *testing.T) {
	l := lay(t, set("L R | R WS L | EN R", 0))
	want := l.Lines()
	for i := range want {
		lines := l.Lines()
		spoilLine(&lines[i])
		for k := range want {
			if k != i && !equalLines(lines[k], want[k]) {
				t.Errorf("P2: writing into line %d, line %d became %v, was %v", i, k, lines[k], want[k])
			}
		}
	}
}

func TestCallsOnOneLayoutAtTheSameTime(t *testing.T) {
	numbers := []int{-1, 0, 1, 2, 3, 5, 8, 13, 400}
	l := lay(t, set("L R WS | R [ LRI L PDI ] 1 2 | S L NSM", 1))
	want := tell(l, numbers)
	var wait sync.WaitGroup
	for range 8 {
		wait.Go(func() {
			for range 100 {
				if got := tell(l, numbers); !got.equal(want) {
					t.Errorf("P2: %v, want %v", got, want)
					return
				}
			}
		})
	}
	wait.Wait()
}

package caret_test

import (
	"math"
	"slices"
	"strings"
	"sync"
	"testing"

	"caret/api"
	"caret/caret"
)

// run does the ops in a session, and spoils each answer as a caller may; what it tells are copies made ahead of that.
func run(e *caret.Editor, ops []api.Op) []api.State {
	var out []api.State
	for _, o := range ops {
		s := e.Do(o)
		kept := s
		kept.Selected = slices.Clone(s.Selected)
		out = append(out, kept)
		spoilState(&s)
	}
	return out
}

func spoilState(s *api.State) {
	for i := range s.Selected {
		s.Selected[i] = api.Span{Line: -1, From: -1, To: -1, Left: -1, Right: -1}
	}
	s.Selected = append(s.Selected, api.Span{})
	s.Anchor, s.Focus, s.Gap = at(-1), at(-1), gap(-1, -1)
}

func (d *dice) anyOps(s api.Setup, count int) []api.Op {
	var out []api.Op
	for range count {
		out = append(out, d.anyOp(s))
	}
	return out
}

// Each thing that a session knows, and some that it does not, with numbers of each size.
func TestNoSessionPanics(t *testing.T) {
	known := bothTables(t)
	d := dice(41)
	numbers := farNumbers()
	try := func(s api.Setup) {
		defer func() {
			if p := recover(); p != nil {
				t.Errorf("P1: %+q, base %d, widths %v, breaks %v: %v", s.Text, s.Base, s.Widths, s.Breaks, p)
			}
		}()
		e := begin(t, lay(t, s))
		for i, number := range numbers {
			other := numbers[len(numbers)-1-i]
			for do := api.Left; do <= api.Redo; do++ {
				e.Do(api.Op{Do: do, Extend: d.below(2) == 0, A: number, X: int64(other), Back: d.below(2) == 0})
			}
			e.Do(api.Op{Do: number, A: other, X: int64(number), Text: s.Text})
		}
	}
	for base := range 3 {
		try(broken("", base))
		try(broken("\xFF", base))
		try(broken("\r\n", base))
	}
	for range 60 {
		try(d.anySetup(without(pieces, known), 12, true, known))
		try(d.anySetup(without(runners, known), 80, true, known))
	}
}

func TestWhatASessionTellsIsTheCallers(t *testing.T) {
	known := bothTables(t)
	d := dice(43)
	for range 200 {
		s := d.anySetup(without(runners, known), 40, true, known)
		ops := d.anyOps(s, 20)
		l := lay(t, s)
		var want []api.State
		e := begin(t, l)
		for _, o := range ops {
			want = append(want, e.Do(o))
		}
		for _, got := range [][]api.State{run(begin(t, l), ops), run(begin(t, l), ops), run(begin(t, lay(t, copyOf(s))), ops)} {
			if !slices.EqualFunc(got, want, equalStates) {
				t.Fatalf("P2: %+q, base %d, breaks %v: of %+v: %+v, want %+v", s.Text, s.Base, s.Breaks, ops, got, want)
			}
		}
	}
}

// A state that was told stays as it is, whatever is done next.
func TestTellingStatesShareNoMemory(t *testing.T) {
	l := threeLines(t, 0)
	e := selectFrom(t, l, at(1), back(8))
	one, two := e.Do(op(api.Nothing)), e.Do(op(api.Nothing))
	want := e.Do(op(api.Nothing))
	spoilState(&one)
	e.Do(extended(setTo(at(4))))
	checkState(t, "told once more", two, want)
	checkState(t, "told at last", want, api.State{
		Anchor: at(1), Focus: back(8), Gap: gap(2, 1), X: 10, Before: gap(2, 1), After: gap(2, 2),
		Selected: []api.Span{span(0, 1, 2, 10, 20), span(1, 0, 3, 0, 30), span(2, 0, 1, 0, 10)},
	})
}

func TestSessionsAndTheirLayoutLeaveOneAnotherAlone(t *testing.T) {
	known := bothTables(t)
	d := dice(47)
	numbers := []int{-1, 0, 1, 2, 3, 5, 8, 13, 400}
	for range 60 {
		s := d.anySetup(without(runners, known), 30, true, known)
		was := copyOf(s)
		l := lay(t, s)
		told := tell(l, numbers)
		ops, others := d.anyOps(s, 12), d.anyOps(s, 12)
		want, wanted := run(begin(t, l), ops), run(begin(t, l), others)
		s.Widths, s.Breaks = spoilt(s.Widths), spoilt(s.Breaks)
		one, two := begin(t, l), begin(t, l)
		for i := range ops {
			checkState(t, "one of two", run(one, ops[i:i+1])[0], want[i])
			tell(l, numbers[:2])
			checkState(t, "the other one", run(two, others[i:i+1])[0], wanted[i])
		}
		if again := tell(l, numbers); !again.equal(told) {
			t.Fatalf("P2: %+q: behind two sessions the layout's %v became %v", was.Text, told, again)
		}
	}
}

func TestSessionsAtTheSameTime(t *testing.T) {
	s := set("L R WS | R [ LRI L PDI ] 1 2 | S L NSM", 1)
	l := lay(t, s)
	d := dice(53)
	ops := d.anyOps(s, 60)
	want := run(begin(t, l), ops)
	var wait sync.WaitGroup
	for range 8 {
		wait.Go(func() {
			for range 50 {
				if got := run(l.Edit(), ops); !slices.EqualFunc(got, want, equalStates) {
					t.Errorf("P2: %+v, want %+v", got, want)
					return
				}
			}
		})
	}
	wait.Wait()
}

func TestWrapAndWordsNeverPanic(t *testing.T) {
	known := bothTables(t)
	d := dice(59)
	numbers := farNumbers()
	try := func(text string, widths []int, room int) {
		defer func() {
			if p := recover(); p != nil {
				t.Errorf("P1: %+q, widths %v, room %d: %v", text, widths, room, p)
			}
		}()
		caret.Words(text)
		caret.Wrap(text, widths, room)
	}
	for _, room := range numbers {
		for range 20 {
			s := d.anySetup(pieces, 12, false, known)
			for i := range s.Widths {
				s.Widths[i] = numbers[d.below(len(numbers))]
			}
			try(s.Text, s.Widths, room)
		}
		try("", nil, room)
		try("a b", nil, room)
		try("a b", []int{room, room, room}, room)
		try(strings.Repeat("a ", 1000), slices.Repeat([]int{room}, 2000), math.MaxInt)
	}
}

// Where there is room behind a list, Wrap must not write there; what it answers is the caller's, and is not asked again.
func TestWrapLeavesItsWidthsAlone(t *testing.T) {
	known := bothTables(t)
	d := dice(61)
	for range 300 {
		s := d.anySetup(runners, 30, true, known)
		full := append(slices.Clone(s.Widths), 77, 78)
		was := slices.Clone(full)
		for _, room := range []int{-1, 0, 4, 20, math.MaxInt} {
			want := slices.Clone(caret.Wrap(s.Text, full[:len(s.Widths)], room))
			spoilt(caret.Wrap(s.Text, full[:len(s.Widths)], room))
			got := caret.Wrap(s.Text, full[:len(s.Widths)], room)
			if !slices.Equal(got, want) || !slices.Equal(full, was) {
				t.Fatalf("P2: Wrap(%+q, %v, %d) = %v, then %v; the widths became %v", s.Text, was, room, want, got, full)
			}
		}
	}
}

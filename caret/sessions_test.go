package caret_test

import (
	"math"
	"slices"
	"testing"

	"caret/api"
	"caret/caret"
)

func op(do int) api.Op { return api.Op{Do: do} }

func clickAt(line int, x int64) api.Op { return api.Op{Do: api.Click, A: line, X: x} }

func setTo(c api.Caret) api.Op { return api.Op{Do: api.Set, A: c.Offset, Back: c.Back} }

func extended(o api.Op) api.Op {
	o.Extend = true
	return o
}

func begin(t *testing.T, l *caret.Layout) *caret.Editor {
	t.Helper()
	e := l.Edit()
	if e == nil {
		t.Fatal("P22: Edit gives no session")
	}
	return e
}

// selectFrom begins a session in which this is selected.
func selectFrom(t *testing.T, l *caret.Layout, anchor, focus api.Caret) *caret.Editor {
	t.Helper()
	e := begin(t, l)
	e.Do(setTo(anchor))
	if s := e.Do(extended(setTo(focus))); s.Anchor != anchor || s.Focus != focus {
		t.Fatalf("P22: set to %v, then to %v: %+v", anchor, focus, s)
	}
	return e
}

func equalStates(a, b api.State) bool {
	selected := slices.Equal(a.Selected, b.Selected)
	return selected && a.Anchor == b.Anchor && a.Focus == b.Focus && a.Gap == b.Gap && a.X == b.X && a.Before == b.Before && a.After == b.After && a.Moved == b.Moved
}

// doing: an op, and where the session is then.
type doing struct {
	op            api.Op
	anchor, focus api.Caret
	moved         bool
}

// checkDoing: beside the two carets, what the layout itself tells of them.
func checkDoing(t *testing.T, what string, l *caret.Layout, e *caret.Editor, steps []doing) {
	t.Helper()
	for i, c := range steps {
		want := api.State{
			Anchor: c.anchor, Focus: c.focus, Gap: l.Gap(c.focus), X: l.X(c.focus), Moved: c.moved,
			Before: l.Gap(back(c.focus.Offset)), After: l.Gap(at(c.focus.Offset)), Selected: l.Select(c.anchor.Offset, c.focus.Offset),
		}
		if got := e.Do(c.op); !equalStates(got, want) {
			t.Errorf("P22 to P24: %s: step %d: Do(%+v) = %+v, want %+v", what, i, c.op, got, want)
		}
	}
}

func checkState(t *testing.T, what string, got, want api.State) {
	t.Helper()
	if !equalStates(got, want) {
		t.Errorf("P24: %s: %+v, want %+v", what, got, want)
	}
}

// Numbers that no session knows: below 0, beyond the last one, and those that only a document knows.
var idleNumbers = []int{
	api.Nothing, api.Insert, api.Erase, api.Delete, api.WordBack, api.WordNext, api.Undo, api.Redo,
	-1, -2, -8, api.Redo + 1, 99, math.MinInt, math.MaxInt, 1 << 32, 1<<32 + api.Right, 1<<32 + api.Set, -1 << 32, 256 + api.Down, 1<<16 + api.Click,
}

// With and without Extend, and with all that other ops ask for.
func idleOps() []api.Op {
	var out []api.Op
	for _, number := range idleNumbers {
		out = append(out, op(number), extended(op(number)))
		full := api.Op{Do: number, A: 1, X: 99, Back: true, Text: "x"}
		out = append(out, full, extended(full))
	}
	return out
}

func TestASessionAsEditBeginsIt(t *testing.T) {
	for _, o := range idleOps() {
		checkState(t, "from the left", begin(t, threeLines(t, 0)).Do(o), api.State{})
		checkState(t, "from the right", begin(t, fromRight(t)).Do(o), api.State{Gap: gap(0, 4), X: 15, Before: gap(0, 4), After: gap(0, 4)})
		for base := range 3 {
			checkState(t, "of no bytes", begin(t, lay(t, broken("", base))).Do(o), api.State{})
		}
	}
	// What is done first begins at byte 0, and what is selected does.
	checkDoing(t, "from the left", threeLines(t, 0), begin(t, threeLines(t, 0)), []doing{{extended(op(api.Next)), at(0), back(1), true}})
	checkDoing(t, "from the right", fromRight(t), begin(t, fromRight(t)), []doing{{extended(op(api.Left)), at(0), back(4), true}})
}

// The lines a b, R R WS and a R, as they are seen: the clusters 0 1, 3 2 4 and 5 6.
func TestEachOpWithAndWithoutExtend(t *testing.T) {
	l := threeLines(t, 0)
	for _, c := range []struct {
		what  string
		op    api.Op
		from  api.Caret
		want  api.Caret
		moved bool
	}{
		{"Left", op(api.Left), at(4), back(6), true}, {"Left", op(api.Left), at(0), at(0), false}, {"Left", op(api.Left), back(6), back(2), true},
		{"Right", op(api.Right), at(4), at(2), true}, {"Right", op(api.Right), at(8), at(8), false}, {"Right", op(api.Right), back(2), back(6), true},
		{"Next", op(api.Next), at(4), back(6), true}, {"Next", op(api.Next), back(10), back(10), false},
		{"Prev", op(api.Prev), at(4), at(2), true}, {"Prev", op(api.Prev), at(0), at(0), false},
		{"Home", op(api.Home), at(4), at(2), true}, {"Home", op(api.Home), at(2), at(2), false}, {"Home", op(api.Home), back(2), at(0), true},
		{"End", op(api.End), at(4), back(7), true}, {"End", op(api.End), back(7), back(7), false}, {"End", op(api.End), at(7), back(10), true},
		{"Up", op(api.Up), at(4), back(1), true}, {"Up", op(api.Up), back(1), back(1), false},
		{"Down", op(api.Down), at(4), back(8), true}, {"Down", op(api.Down), back(8), back(8), false},
		{"Click", clickAt(2, 16), at(4), at(8), true}, {"Click", clickAt(0, 4), at(4), at(0), true}, {"Click", clickAt(1, 12), at(4), at(4), false},
		{"Set", setTo(at(1)), at(4), at(1), true}, {"Set", setTo(back(1)), at(4), back(1), true}, {"Set", setTo(at(4)), at(4), at(4), false},
	} {
		// The anchor stands elsewhere first, on either side.
		for _, anchor := range []api.Caret{at(1), back(8)} {
			checkDoing(t, c.what, l, selectFrom(t, l, anchor, c.from), []doing{{c.op, c.want, c.want, c.moved}})
			checkDoing(t, c.what+" with Extend", l, selectFrom(t, l, anchor, c.from), []doing{{extended(c.op), anchor, c.want, c.moved}})
		}
	}
}

// What an op does not ask for does not matter.
func TestOpsDoNotHeedWhatIsNotTheirs(t *testing.T) {
	l := threeLines(t, 0)
	for do := api.Left; do <= api.Down; do++ {
		plain := selectFrom(t, l, at(1), at(4)).Do(op(do))
		checkState(t, "Move", selectFrom(t, l, at(1), at(4)).Do(api.Op{Do: do, A: 9, X: 99, Back: true, Text: "x"}), plain)
	}
	checkState(t, "Click", begin(t, l).Do(api.Op{Do: api.Click, A: 1, X: 12, Back: true, Text: "x"}), begin(t, l).Do(clickAt(1, 12)))
	checkState(t, "Set", begin(t, l).Do(api.Op{Do: api.Set, A: 4, X: 99, Text: "x"}), begin(t, l).Do(setTo(at(4))))
}

func TestNothingIsDone(t *testing.T) {
	l := threeLines(t, 0)
	for _, o := range idleOps() {
		for _, c := range []struct{ anchor, focus, home api.Caret }{{at(0), at(0), at(0)}, {at(1), at(8), at(7)}, {back(7), back(1), at(0)}, {back(2), at(2), at(2)}, {at(4), back(4), at(2)}} {
			e := selectFrom(t, l, c.anchor, c.focus)
			checkDoing(t, "nothing", l, e, []doing{{o, c.anchor, c.focus, false}, {o, c.anchor, c.focus, false}})
			// And what comes next goes on from there.
			checkDoing(t, "behind nothing", l, e, []doing{{extended(op(api.Home)), c.anchor, c.home, c.home != c.focus}})
		}
	}
}

// Lines of 5, 1, 3 and 5 clusters of 10.
func uneven(t *testing.T) *caret.Layout { return lay(t, broken("abcdefghijklmn", 0, 5, 6, 9)) }

func TestTheGoalOverSeveralLines(t *testing.T) {
	l := uneven(t)
	start := setTo(back(4))
	down := []doing{{op(api.Down), back(6), back(6), true}, {op(api.Down), back(9), back(9), true}, {op(api.Down), back(13), back(13), true}, {op(api.Down), back(13), back(13), false}}
	up := []doing{{op(api.Up), back(9), back(9), true}, {op(api.Up), back(6), back(6), true}, {op(api.Up), back(4), back(4), true}, {op(api.Up), back(4), back(4), false}}
	e := begin(t, l)
	e.Do(start)
	for range 3 {
		checkDoing(t, "down", l, e, down)
		checkDoing(t, "up", l, e, up)
	}
	e = begin(t, l)
	e.Do(start)
	checkDoing(t, "with Extend", l, e, []doing{
		{extended(op(api.Down)), back(4), back(6), true}, {extended(op(api.Down)), back(4), back(9), true}, {op(api.Down), back(13), back(13), true}, {extended(op(api.Up)), back(13), back(9), true}, {extended(op(api.Up)), back(13), back(6), true}, {extended(op(api.Up)), back(13), back(4), true},
	})
	// The goal is where the focus stood at first, also where the first Up or Down found no line.
	e = begin(t, l)
	checkDoing(t, "a first Up that stays", l, e, []doing{
		{start, back(4), back(4), true}, {op(api.Up), back(4), back(4), false}, {op(api.Down), back(6), back(6), true}, {op(api.Up), back(4), back(4), true}, {op(api.Down), back(6), back(6), true}, {op(api.Down), back(9), back(9), true}, {op(api.Down), back(13), back(13), true},
	})
}

// A goal is a place, not a gap, and it is not the goal of the session before.
func TestTheGoalIsAPlace(t *testing.T) {
	l := fromLeft(t) // gaps at 0 1 3 7 and at 0 8 24
	e := begin(t, l)
	checkDoing(t, "from the left", l, e, []doing{
		{setTo(back(7)), back(7), back(7), true}, {op(api.Up), back(4), back(4), true}, {op(api.Down), back(7), back(7), true}, {op(api.Up), back(4), back(4), true},
		{setTo(back(4)), back(4), back(4), false}, {op(api.Down), at(4), at(4), true}, {op(api.Up), back(4), back(4), true},
	})
	// A line from right to left: the goal is counted from the left all the same.
	l = fromRight(t) // gaps at 0 8 10 14 15 and at 0 32 48
	checkDoing(t, "from the right", l, begin(t, l), []doing{
		{setTo(back(6)), back(6), back(6), true}, {op(api.Up), at(0), at(0), true}, {op(api.Down), back(6), back(6), true}, {op(api.Home), at(5), at(5), true}, {op(api.Up), at(0), at(0), true}, {op(api.Down), at(6), at(6), true},
	})
}

func TestTheGoalIsKeptOverNothing(t *testing.T) {
	l := uneven(t)
	for _, o := range idleOps() {
		e := begin(t, l)
		checkDoing(t, "kept", l, e, []doing{
			{setTo(back(4)), back(4), back(4), true}, {op(api.Down), back(6), back(6), true}, {o, back(6), back(6), false}, {op(api.Down), back(9), back(9), true}, {o, back(9), back(9), false}, {o, back(9), back(9), false}, {op(api.Down), back(13), back(13), true},
			{o, back(13), back(13), false}, {op(api.Up), back(9), back(9), true}, {op(api.Up), back(6), back(6), true}, {o, back(6), back(6), false}, {op(api.Up), back(4), back(4), true},
		})
		// Nothing ahead of the first one is not the first one.
		e = begin(t, l)
		checkDoing(t, "begun", l, e, []doing{{o, at(0), at(0), false}, {op(api.Right), back(1), back(1), true}, {op(api.Right), back(2), back(2), true}, {o, back(2), back(2), false}, {op(api.Down), back(6), back(6), true}, {op(api.Down), back(8), back(8), true}})
	}
}

func TestTheGoalIsDropped(t *testing.T) {
	l := uneven(t)
	toTheShortLine := []doing{{setTo(back(4)), back(4), back(4), true}, {op(api.Down), back(6), back(6), true}}
	for _, c := range []struct {
		what  string
		op    api.Op
		moved bool
		focus api.Caret
		down  api.Caret
	}{
		{"by Set to the same caret", setTo(back(6)), false, back(6), back(7)},
		{"by Click at the same caret", clickAt(1, 10), false, back(6), back(7)},
		{"by End at the end", op(api.End), false, back(6), back(7)},
		{"by Home", op(api.Home), true, at(5), at(6)},
		{"by Set", setTo(at(5)), true, at(5), at(6)},
		{"by Click", clickAt(1, 2), true, at(5), at(6)},
		{"by Left", op(api.Left), true, at(5), at(6)},
		{"by Prev", op(api.Prev), true, at(5), at(6)},
		{"by Right", op(api.Right), true, at(6), at(9)},
		{"by Next", op(api.Next), true, back(7), back(10)},
	} {
		for _, o := range []api.Op{c.op, extended(c.op)} {
			e := begin(t, l)
			checkDoing(t, c.what, l, e, toTheShortLine)
			anchor := c.focus
			if o.Extend {
				anchor = back(6)
			}
			checkDoing(t, c.what, l, e, []doing{{o, anchor, c.focus, c.moved}, {op(api.Down), c.down, c.down, true}})
		}
	}
	// Left, Right, Next and Prev that do not move, at the ends of a text.
	l = lay(t, broken("abcdefg", 0, 1, 6))
	for _, c := range []struct {
		do    int
		first []doing
		then  []doing
	}{
		{api.Left, []doing{{setTo(back(5)), back(5), back(5), true}, {op(api.Up), back(1), back(1), true}, {op(api.Prev), at(0), at(0), true}}, []doing{{op(api.Down), at(1), at(1), true}}},
		{api.Prev, []doing{{setTo(back(5)), back(5), back(5), true}, {op(api.Up), back(1), back(1), true}, {op(api.Home), at(0), at(0), true}}, []doing{{op(api.Down), at(1), at(1), true}}},
		{api.Right, []doing{{setTo(back(5)), back(5), back(5), true}, {op(api.Down), back(7), back(7), true}}, []doing{{op(api.Up), back(2), back(2), true}}},
		{api.Next, []doing{{setTo(back(5)), back(5), back(5), true}, {op(api.Down), back(7), back(7), true}}, []doing{{op(api.Up), back(2), back(2), true}}},
	} {
		e := begin(t, l)
		checkDoing(t, "first", l, e, c.first)
		at := c.first[len(c.first)-1].focus
		checkDoing(t, "that stays", l, e, []doing{{op(c.do), at, at, false}})
		checkDoing(t, "then", l, e, c.then)
	}
}

func TestClickAndSetOutside(t *testing.T) {
	l := threeLines(t, 0)
	for _, c := range []struct {
		what string
		op   api.Op
		want api.Caret
	}{
		{"ahead of the first line", clickAt(-1, 12), back(1)}, {"far ahead", clickAt(math.MinInt, 12), back(1)}, {"behind the last line", clickAt(3, 12), back(8)}, {"far behind", clickAt(math.MaxInt, 12), back(8)}, {"far behind", clickAt(1<<32, 12), back(8)},
		{"at the left of a line", clickAt(1, -1), back(6)}, {"far at the left", clickAt(1, math.MinInt64), back(6)}, {"at the right", clickAt(1, 31), back(7)}, {"far at the right", clickAt(1, math.MaxInt64), back(7)},
		{"ahead and at the left", clickAt(-9, -9), at(0)}, {"behind and at the right", clickAt(9, 99), at(8)}, {"far away", clickAt(math.MaxInt, math.MinInt64), at(7)},
		{"between two gaps", clickAt(1, 15), at(4)}, {"nearer to the next one", clickAt(1, 16), at(2)},
		{"below 0", setTo(at(-1)), at(0)}, {"below 0", setTo(back(-1)), at(0)}, {"far below 0", setTo(back(math.MinInt)), at(0)}, {"at 0 with Back", setTo(back(0)), at(0)},
		{"at the end", setTo(at(10)), back(10)}, {"beyond the end", setTo(at(11)), back(10)}, {"far beyond", setTo(at(math.MaxInt)), back(10)}, {"far beyond", setTo(back(1 << 32)), back(10)},
		{"within a cluster", setTo(at(3)), at(2)}, {"within a cluster", setTo(back(3)), back(2)}, {"within a cluster", setTo(at(5)), at(4)}, {"within the last cluster", setTo(back(9)), back(8)},
	} {
		from := at(1)
		checkDoing(t, c.what, l, selectFrom(t, l, from, from), []doing{{c.op, c.want, c.want, true}})
		checkDoing(t, c.what+" with Extend", l, selectFrom(t, l, from, from), []doing{{extended(c.op), from, c.want, true}, {c.op, c.want, c.want, false}})
	}
	l = lay(t, broken("xe\u0301y", 0))
	checkDoing(t, "within a cluster of two runes", l, begin(t, l), []doing{{setTo(at(3)), at(1), at(1), true}, {setTo(at(2)), at(1), at(1), false}, {extended(setTo(back(2))), at(1), back(1), true}, {setTo(at(5)), back(5), back(5), true}})
	for base := range 3 {
		l = lay(t, broken("", base))
		checkDoing(t, "of no bytes", l, begin(t, l), []doing{{setTo(back(9)), at(0), at(0), false}, {extended(clickAt(9, 99)), at(0), at(0), false}, {clickAt(-9, -99), at(0), at(0), false}, {op(api.Down), at(0), at(0), false}, {op(api.Right), at(0), at(0), false}})
	}
}

func TestMovedOfClickAndSet(t *testing.T) {
	l := threeLines(t, 0)
	checkDoing(t, "Set", l, begin(t, l), []doing{
		{setTo(at(0)), at(0), at(0), false}, {setTo(back(0)), at(0), at(0), false}, {setTo(at(-5)), at(0), at(0), false},
		{setTo(at(2)), at(2), at(2), true}, {setTo(at(2)), at(2), at(2), false}, {setTo(at(3)), at(2), at(2), false},
		// Back alone differs: where a line ends, and where none does.
		{setTo(back(2)), back(2), back(2), true}, {setTo(back(2)), back(2), back(2), false}, {setTo(at(2)), at(2), at(2), true},
		{setTo(at(1)), at(1), at(1), true}, {setTo(back(1)), back(1), back(1), true}, {extended(setTo(at(1))), back(1), at(1), true}, {extended(setTo(at(1))), back(1), at(1), false},
		{setTo(at(10)), back(10), back(10), true}, {setTo(back(10)), back(10), back(10), false}, {setTo(at(99)), back(10), back(10), false},
	})
	checkDoing(t, "Click", l, begin(t, l), []doing{
		{clickAt(0, 0), at(0), at(0), false}, {clickAt(0, 4), at(0), at(0), false}, {clickAt(0, 10), back(1), back(1), true}, {clickAt(0, 11), back(1), back(1), false}, {clickAt(-1, 9), back(1), back(1), false},
		// The caret of this gap is another one than that at which the focus stands, though the gap is the same.
		{setTo(at(1)), at(1), at(1), true}, {clickAt(0, 10), back(1), back(1), true},
		{clickAt(1, 0), back(6), back(6), true}, {extended(clickAt(1, 20)), back(6), at(2), true}, {extended(clickAt(1, 19)), back(6), at(2), false},
	})
	// That the anchor moves is not asked.
	checkDoing(t, "the anchor alone", l, selectFrom(t, l, at(1), at(4)), []doing{{setTo(at(4)), at(4), at(4), false}})
	checkDoing(t, "the anchor alone", l, selectFrom(t, l, at(1), at(4)), []doing{{clickAt(1, 10), at(4), at(4), false}})
	checkDoing(t, "the anchor alone", l, selectFrom(t, l, at(1), back(7)), []doing{{op(api.End), back(7), back(7), false}})
}

func TestBeforeAndAfter(t *testing.T) {
	two := lay(t, set("a b R R", 0)) // the document's example: a b from the left, R R from the right
	checkState(t, "where two directions meet", begin(t, two).Do(setTo(at(2))), api.State{Anchor: at(2), Focus: at(2), Gap: gap(0, 4), X: 40, Before: gap(0, 2), After: gap(0, 4), Moved: true})
	checkState(t, "where two directions meet, with Back", begin(t, two).Do(setTo(back(2))), api.State{Anchor: back(2), Focus: back(2), Gap: gap(0, 2), X: 20, Before: gap(0, 2), After: gap(0, 4), Moved: true})
	checkState(t, "in one direction", begin(t, two).Do(setTo(at(1))), api.State{Anchor: at(1), Focus: at(1), Gap: gap(0, 1), X: 10, Before: gap(0, 1), After: gap(0, 1), Moved: true})
	checkState(t, "from the right", begin(t, two).Do(setTo(at(4))), api.State{Anchor: at(4), Focus: at(4), Gap: gap(0, 3), X: 30, Before: gap(0, 3), After: gap(0, 3), Moved: true})
	checkState(t, "at the end", begin(t, two).Do(setTo(at(6))), api.State{Anchor: back(6), Focus: back(6), Gap: gap(0, 2), X: 20, Before: gap(0, 2), After: gap(0, 2), Moved: true})
	lines := threeLines(t, 0)
	checkState(t, "where a line ends", begin(t, lines).Do(setTo(back(2))), api.State{Anchor: back(2), Focus: back(2), Gap: gap(0, 2), X: 20, Before: gap(0, 2), After: gap(1, 2), Moved: true})
	checkState(t, "where a line begins", begin(t, lines).Do(setTo(at(2))), api.State{Anchor: at(2), Focus: at(2), Gap: gap(1, 2), X: 20, Before: gap(0, 2), After: gap(1, 2), Moved: true})
	checkState(t, "where a line begins", begin(t, lines).Do(setTo(at(7))), api.State{Anchor: at(7), Focus: at(7), Gap: gap(2, 0), X: 0, Before: gap(1, 3), After: gap(2, 0), Moved: true})
}

func TestSelectedInBothOrders(t *testing.T) {
	l := lay(t, set("a b R R", 0))
	want := []api.Span{span(0, 1, 2, 10, 20), span(0, 3, 4, 30, 40)}
	checkState(t, "the anchor ahead", selectFrom(t, l, at(1), back(4)).Do(op(api.Nothing)), api.State{Anchor: at(1), Focus: back(4), Gap: gap(0, 3), X: 30, Before: gap(0, 3), After: gap(0, 3), Selected: want})
	checkState(t, "the focus ahead", selectFrom(t, l, back(4), at(1)).Do(op(api.Nothing)), api.State{Anchor: back(4), Focus: at(1), Gap: gap(0, 1), X: 10, Before: gap(0, 1), After: gap(0, 1), Selected: want})
	checkState(t, "at one byte", selectFrom(t, l, at(2), back(2)).Do(op(api.Nothing)), api.State{Anchor: at(2), Focus: back(2), Gap: gap(0, 2), X: 20, Before: gap(0, 2), After: gap(0, 4)})
	lines := threeLines(t, 0)
	over := []api.Span{span(0, 1, 2, 10, 20), span(1, 0, 3, 0, 30), span(2, 0, 1, 0, 10)}
	for _, c := range [][2]api.Caret{{at(1), back(8)}, {back(8), at(1)}, {at(8), back(1)}} {
		if s := selectFrom(t, lines, c[0], c[1]).Do(op(-1)); !slices.Equal(s.Selected, over) {
			t.Errorf("P24: from %v to %v: %v, want %v", c[0], c[1], s.Selected, over)
		}
	}
}

func TestTwoSessionsOfOneLayout(t *testing.T) {
	l := uneven(t)
	one, two := begin(t, l), begin(t, l)
	checkDoing(t, "one", l, one, []doing{{setTo(back(4)), back(4), back(4), true}, {extended(op(api.Down)), back(4), back(6), true}})
	checkDoing(t, "two", l, two, []doing{{op(api.Nothing), at(0), at(0), false}, {op(api.Down), at(5), at(5), true}, {extended(op(api.Right)), at(5), back(6), true}})
	checkDoing(t, "one again", l, one, []doing{{op(api.Nothing), back(4), back(6), false}, {op(api.Down), back(9), back(9), true}})
	checkDoing(t, "two again", l, two, []doing{{op(api.Down), back(7), back(7), true}, {op(api.Down), back(10), back(10), true}})
	checkDoing(t, "one at last", l, one, []doing{{op(api.Down), back(13), back(13), true}})
	checkDoing(t, "a third one", l, begin(t, l), []doing{{op(api.Down), at(5), at(5), true}})
}

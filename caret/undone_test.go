package caret_test

import (
	"math"
	"slices"
	"strings"
	"testing"

	"caret/api"
)

func TestUndoAndRedoOneBehindTheOther(t *testing.T) {
	k := deskWith(t, 20)
	k.checkPaging(t, "three changes", k.open(t, ""), []paging{
		{op(api.Undo), "", at(0), at(0), false, 0, 0}, {op(api.Redo), "", at(0), at(0), false, 0, 0},
		{inserting("a"), "a", back(1), back(1), true, 1, 0}, {inserting("b"), "ab", back(2), back(2), true, 2, 0}, {inserting("c"), "abc", back(3), back(3), true, 3, 0},
		{op(api.Redo), "abc", back(3), back(3), false, 3, 0},
		{op(api.Undo), "ab", back(2), back(2), true, 2, 1}, {op(api.Undo), "a", back(1), back(1), true, 1, 2}, {op(api.Undo), "", at(0), at(0), true, 0, 3},
		{op(api.Undo), "", at(0), at(0), false, 0, 3}, {op(api.Undo), "", at(0), at(0), false, 0, 3},
		{op(api.Redo), "a", back(1), back(1), true, 1, 2}, {op(api.Redo), "ab", back(2), back(2), true, 2, 1}, {op(api.Redo), "abc", back(3), back(3), true, 3, 0},
		{op(api.Redo), "abc", back(3), back(3), false, 3, 0}, {op(api.Redo), "abc", back(3), back(3), false, 3, 0},
		{op(api.Undo), "ab", back(2), back(2), true, 2, 1}, {op(api.Redo), "abc", back(3), back(3), true, 3, 0}, {op(api.Undo), "ab", back(2), back(2), true, 2, 1}, {op(api.Undo), "a", back(1), back(1), true, 1, 2}, {op(api.Redo), "ab", back(2), back(2), true, 2, 1}, {op(api.Undo), "a", back(1), back(1), true, 1, 2},
	})
}

func TestUndoHasTheSelectionBack(t *testing.T) {
	k := deskWith(t, 20)
	for _, c := range []struct {
		op   api.Op
		text string
		then api.Caret
	}{{inserting("xy"), "axyd", back(3)}, {inserting(""), "ad", back(1)}, {op(api.Erase), "ad", back(1)}, {op(api.Delete), "ad", back(1)}, {inserting("bc"), "abcd", back(3)}} {
		for _, ends := range [][2]api.Caret{{at(1), back(3)}, {back(3), at(1)}, {back(1), at(3)}, {at(3), back(1)}} {
			for _, last := range [][2]api.Op{{op(api.Undo), op(api.Redo)}, {extended(op(api.Undo)), extended(op(api.Redo))}, {{Do: api.Undo, A: 1, X: 2, Back: true, Text: "x"}, {Do: api.Redo, A: 1, X: 2, Back: true, Text: "x"}}} {
				k.checkPaging(t, "a selection", k.selectIn(t, "abcd", ends[0], ends[1]), []paging{
					{c.op, c.text, c.then, c.then, true, 1, 0}, {last[0], "abcd", ends[0], ends[1], true, 0, 1}, {last[1], c.text, c.then, c.then, true, 1, 0}, {last[0], "abcd", ends[0], ends[1], true, 0, 1},
				})
			}
		}
	}
}

func TestMovesBetweenAChangeAndItsUndo(t *testing.T) {
	k := deskWith(t, 1<<20)
	k.checkPaging(t, "moved ahead of Undo", k.open(t, "abcd"), []paging{
		{setTo(at(2)), "abcd", at(2), at(2), true, 0, 0}, {inserting("x"), "abxcd", back(3), back(3), true, 1, 0},
		{setTo(at(1)), "abxcd", at(1), at(1), true, 1, 0}, {extended(setTo(back(4))), "abxcd", at(1), back(4), true, 1, 0},
		// What was ahead of the change, not ahead of the moves.
		{op(api.Undo), "abcd", at(2), at(2), true, 0, 1},
		// What was when the Undo was made, not behind the change.
		{op(api.Redo), "abxcd", at(1), back(4), true, 1, 0},
		{op(api.Undo), "abcd", at(2), at(2), true, 0, 1},
	})
	k.checkPaging(t, "moved ahead of the change", k.open(t, "abcd"), []paging{
		{inserting("x"), "xabcd", back(1), back(1), true, 1, 0}, {setTo(at(3)), "xabcd", at(3), at(3), true, 1, 0}, {op(api.Erase), "xacd", back(2), back(2), true, 2, 0},
		{op(api.Undo), "xabcd", at(3), at(3), true, 1, 1}, {op(api.Undo), "abcd", at(0), at(0), true, 0, 2},
		{op(api.Redo), "xabcd", at(3), at(3), true, 1, 1}, {op(api.Redo), "xacd", back(2), back(2), true, 2, 0},
	})
}

func TestMovesBetweenAnUndoAndItsRedo(t *testing.T) {
	k := deskWith(t, 1<<20)
	k.checkPaging(t, "moved ahead of Redo", k.open(t, "abcd"), []paging{
		{setTo(at(2)), "abcd", at(2), at(2), true, 0, 0}, {op(api.Delete), "abd", at(2), at(2), true, 1, 0}, {op(api.Undo), "abcd", at(2), at(2), true, 0, 1},
		{setTo(back(1)), "abcd", back(1), back(1), true, 0, 1}, {extended(op(api.End)), "abcd", back(1), back(4), true, 0, 1},
		{op(api.Redo), "abd", at(2), at(2), true, 1, 0},
		// Done again: ahead of the Redo, not ahead of the change.
		{op(api.Undo), "abcd", back(1), back(4), true, 0, 1}, {op(api.Home), "abcd", at(0), at(0), true, 0, 1}, {op(api.Redo), "abd", at(2), at(2), true, 1, 0}, {op(api.Undo), "abcd", at(0), at(0), true, 0, 1},
	})
	k.checkPaging(t, "two of them", k.open(t, ""), []paging{
		{inserting("a"), "a", back(1), back(1), true, 1, 0}, {inserting("b"), "ab", back(2), back(2), true, 2, 0},
		{op(api.Prev), "ab", at(1), at(1), true, 2, 0}, {op(api.Undo), "a", back(1), back(1), true, 1, 1}, {op(api.Prev), "a", at(0), at(0), true, 1, 1}, {op(api.Undo), "", at(0), at(0), true, 0, 2},
		// Each as it was at its own Undo.
		{op(api.Redo), "a", at(0), at(0), true, 1, 1}, {extended(op(api.Next)), "a", at(0), back(1), true, 1, 1}, {op(api.Redo), "ab", at(1), at(1), true, 2, 0},
		{op(api.Undo), "a", at(0), back(1), true, 1, 1}, {op(api.Undo), "", at(0), at(0), true, 0, 2}, {op(api.Redo), "a", at(0), back(1), true, 1, 1}, {op(api.Redo), "ab", at(1), at(1), true, 2, 0},
	})
}

// Of nine changes six can be undone.
func TestUpToSixChangesCanBeUndone(t *testing.T) {
	const letters = "abcdefghi"
	k := deskWith(t, 30)
	d := k.open(t, "")
	for i := range len(letters) {
		k.checkPaging(t, "done", d, []paging{{inserting(letters[i : i+1]), letters[:i+1], back(i + 1), back(i + 1), true, min(i+1, 6), 0}})
	}
	for range 2 {
		for i := range 6 {
			left := len(letters) - 1 - i
			k.checkPaging(t, "undone", d, []paging{{op(api.Undo), letters[:left], back(left), back(left), true, 5 - i, i + 1}})
		}
		k.checkPaging(t, "given up", d, []paging{{op(api.Undo), "abc", back(3), back(3), false, 0, 6}, {op(api.Undo), "abc", back(3), back(3), false, 0, 6}})
		for i := range 6 {
			have := 4 + i
			k.checkPaging(t, "done again", d, []paging{{op(api.Redo), letters[:have], back(have), back(have), true, i + 1, 5 - i}})
		}
		k.checkPaging(t, "all done again", d, []paging{{op(api.Redo), letters, back(9), back(9), false, 6, 0}})
	}
	// One more gives up one more, also where some were undone first.
	k.checkPaging(t, "one more", d, []paging{{inserting("x"), letters + "x", back(10), back(10), true, 6, 0}, {op(api.Undo), letters, back(9), back(9), true, 5, 1}, {op(api.Undo), letters[:8], back(8), back(8), true, 4, 2}, {inserting("y"), letters[:8] + "y", back(9), back(9), true, 5, 0}})
	for range 4 {
		d.Do(op(api.Undo))
	}
	k.checkPaging(t, "the oldest", d, []paging{{op(api.Undo), letters[:4], back(4), back(4), true, 0, 5}, {op(api.Undo), letters[:4], back(4), back(4), false, 0, 5}})
}

func TestChangesByWhichTheTextStays(t *testing.T) {
	k := deskWith(t, 30)
	k.checkPaging(t, "no text", k.open(t, "ab"), []paging{
		{inserting(""), "ab", at(0), at(0), true, 1, 0}, {inserting(""), "ab", at(0), at(0), true, 2, 0}, {setTo(at(1)), "ab", at(1), at(1), true, 2, 0}, {inserting(""), "ab", back(1), back(1), true, 3, 0},
		{op(api.Undo), "ab", at(1), at(1), true, 2, 1}, {op(api.Undo), "ab", at(0), at(0), true, 1, 2}, {op(api.Undo), "ab", at(0), at(0), true, 0, 3}, {op(api.Undo), "ab", at(0), at(0), false, 0, 3},
		{op(api.Redo), "ab", at(0), at(0), true, 1, 2}, {op(api.Redo), "ab", at(1), at(1), true, 2, 1}, {op(api.Redo), "ab", back(1), back(1), true, 3, 0},
	})
	k.checkPaging(t, "what stood there", k.selectIn(t, "abc", at(1), back(2)), []paging{{inserting("b"), "abc", back(2), back(2), true, 1, 0}, {op(api.Undo), "abc", at(1), back(2), true, 0, 1}})
	d := k.open(t, "")
	for i := range 9 {
		k.checkPaging(t, "of no bytes", d, []paging{{inserting(""), "", at(0), at(0), true, min(i+1, 6), 0}})
	}
}

func TestAChangeBehindAnUndo(t *testing.T) {
	k := deskWith(t, 30)
	for _, c := range []struct {
		op   api.Op
		text string
		then api.Caret
	}{{inserting("x"), "abx", back(3)}, {inserting(""), "ab", back(2)}, {op(api.Erase), "a", back(1)}} {
		d := k.open(t, "")
		for _, text := range []string{"a", "b", "c", "d"} {
			d.Do(inserting(text))
		}
		k.checkPaging(t, "a change behind two Undos", d, []paging{
			{op(api.Undo), "abc", back(3), back(3), true, 3, 1}, {op(api.Undo), "ab", back(2), back(2), true, 2, 2}, {c.op, c.text, c.then, c.then, true, 3, 0},
			{op(api.Redo), c.text, c.then, c.then, false, 3, 0}, {op(api.Undo), "ab", back(2), back(2), true, 2, 1}, {op(api.Redo), c.text, c.then, c.then, true, 3, 0}, {op(api.Redo), c.text, c.then, c.then, false, 3, 0},
		})
	}
	// Where nothing is done, and behind moves, what was undone can be done again.
	d := k.open(t, "")
	long := inserting(strings.Repeat("x", 400))
	k.checkPaging(t, "no change behind an Undo", d, []paging{
		{inserting("ab"), "ab", back(2), back(2), true, 1, 0}, {inserting("c"), "abc", back(3), back(3), true, 2, 0}, {op(api.Undo), "ab", back(2), back(2), true, 1, 1},
		{long, "ab", back(2), back(2), false, 1, 1}, {op(api.Delete), "ab", back(2), back(2), false, 1, 1}, {op(api.Left), "ab", back(1), back(1), true, 1, 1}, {op(api.Home), "ab", at(0), at(0), true, 1, 1}, {op(api.Erase), "ab", at(0), at(0), false, 1, 1}, {op(api.Nothing), "ab", at(0), at(0), false, 1, 1}, {extended(op(api.WordNext)), "ab", at(0), back(2), true, 1, 1},
		{op(api.Redo), "abc", back(3), back(3), true, 2, 0}, {op(api.Undo), "ab", at(0), back(2), true, 1, 1},
	})
}

// The lines "abcd ", "e " and "fghi"; the focus comes to the end of the second one, and goes for 40.
const goalText = "abcd e fghi"

func toTheSecondLine(undos, redos int) []paging {
	return []paging{{setTo(back(4)), goalText, back(4), back(4), true, undos, redos}, {op(api.Down), goalText, back(7), back(7), true, undos, redos}}
}

func TestTheGoalOverWhatIsNotDone(t *testing.T) {
	k := deskWith(t, 40)
	idle := []api.Op{op(api.Undo), op(api.Redo), inserting(strings.Repeat("x", 400)), op(api.Nothing), op(-1), op(api.Redo + 1), op(math.MinInt), op(math.MaxInt), op(1<<32 + api.Insert), op(256 + api.Undo)}
	for _, o := range idle {
		for _, o := range []api.Op{o, extended(o)} {
			d := k.open(t, goalText)
			k.checkPaging(t, "kept", d, toTheSecondLine(0, 0))
			k.checkPaging(t, "kept", d, []paging{{o, goalText, back(7), back(7), false, 0, 0}, {o, goalText, back(7), back(7), false, 0, 0}, {op(api.Down), goalText, back(11), back(11), true, 0, 0}, {o, goalText, back(11), back(11), false, 0, 0}, {op(api.Up), goalText, back(7), back(7), true, 0, 0}, {o, goalText, back(7), back(7), false, 0, 0}, {op(api.Up), goalText, back(4), back(4), true, 0, 0}})
		}
	}
	// Undo and Redo where there is none any more.
	d := k.open(t, goalText)
	k.checkPaging(t, "undone", d, []paging{{inserting(""), goalText, at(0), at(0), true, 1, 0}, {op(api.Undo), goalText, at(0), at(0), true, 0, 1}})
	k.checkPaging(t, "undone", d, toTheSecondLine(0, 1))
	k.checkPaging(t, "undone", d, []paging{{op(api.Undo), goalText, back(7), back(7), false, 0, 1}, {op(api.Down), goalText, back(11), back(11), true, 0, 1}})
	// Delete at the end: the last line is short.
	const short = "abcd ef"
	k.checkPaging(t, "Delete at the end", k.open(t, short), []paging{
		{setTo(back(4)), short, back(4), back(4), true, 0, 0}, {op(api.Down), short, back(7), back(7), true, 0, 0}, {op(api.Delete), short, back(7), back(7), false, 0, 0}, {op(api.Up), short, back(4), back(4), true, 0, 0},
	})
	// Erase at the beginning: it stands at the right of a first line that is short.
	const fromRight = "\u05D0 \u05D1\u05D2\u05D3\u05D4"
	k.base = api.FromRight
	k.checkPaging(t, "Erase at the beginning", k.open(t, fromRight), []paging{
		{setTo(at(3)), fromRight, at(3), at(3), true, 0, 0}, {op(api.Up), fromRight, at(0), at(0), true, 0, 0}, {op(api.Erase), fromRight, at(0), at(0), false, 0, 0}, {op(api.Down), fromRight, at(3), at(3), true, 0, 0},
	})
}

func TestTheGoalIsDroppedByWhatIsDone(t *testing.T) {
	k := deskWith(t, 40)
	for _, c := range []struct {
		what string
		ops  []api.Op
	}{
		{"Insert", []api.Op{inserting("x"), op(api.Erase)}}, {"Insert of no text", []api.Op{inserting("")}}, {"with Extend", []api.Op{extended(inserting(""))}}, {"Undo", []api.Op{inserting("x"), op(api.Undo)}}, {"Undo alone", []api.Op{inserting(""), op(api.Undo)}}, {"Redo", []api.Op{inserting(""), op(api.Undo), op(api.Redo)}}, {"Erase", []api.Op{op(api.Erase), inserting(" ")}},
		{"words", []api.Op{op(api.WordBack), op(api.WordNext)}},
	} {
		d := k.open(t, goalText)
		k.checkPaging(t, c.what, d, toTheSecondLine(0, 0))
		for _, o := range c.ops {
			d.Do(o)
		}
		if page := d.Do(op(api.Nothing)); page.Text != goalText || page.Focus != back(7) {
			t.Fatalf("%s: %+v", c.what, page)
		}
		if page := d.Do(op(api.Down)); page.Focus != back(9) || page.X != 20 {
			t.Errorf("P31: %s: the goal was not dropped: %+v", c.what, page)
		}
	}
	// Between an Undo and another one stands a goal that neither is for.
	d := k.open(t, goalText)
	k.checkPaging(t, "Undo that leaves the text", d, []paging{{setTo(back(7)), goalText, back(7), back(7), true, 0, 0}, {inserting(""), goalText, back(7), back(7), true, 1, 0}})
	k.checkPaging(t, "Undo that leaves the text", d, toTheSecondLine(1, 0))
	k.checkPaging(t, "Undo that leaves the text", d, []paging{{op(api.Undo), goalText, back(7), back(7), true, 0, 1}, {op(api.Down), goalText, back(9), back(9), true, 0, 1}})
	k.checkPaging(t, "Redo that leaves the text", d, toTheSecondLine(0, 1))
	k.checkPaging(t, "Redo that leaves the text", d, []paging{{op(api.Redo), goalText, back(7), back(7), true, 1, 0}, {op(api.Down), goalText, back(9), back(9), true, 1, 0}})
	// WordNext at the end, WordBack at the beginning: they stay, and are ops all the same.
	const short = "abcd ef"
	k.checkPaging(t, "WordNext at the end", k.open(t, short), []paging{
		{setTo(back(4)), short, back(4), back(4), true, 0, 0}, {op(api.Down), short, back(7), back(7), true, 0, 0}, {op(api.WordNext), short, back(7), back(7), false, 0, 0}, {op(api.Up), short, back(2), back(2), true, 0, 0},
	})
	const fromRight = "\u05D0 \u05D1\u05D2\u05D3\u05D4"
	k.base = api.FromRight
	k.checkPaging(t, "WordBack at the beginning", k.open(t, fromRight), []paging{
		{setTo(at(3)), fromRight, at(3), at(3), true, 0, 0}, {op(api.Up), fromRight, at(0), at(0), true, 0, 0}, {op(api.WordBack), fromRight, at(0), at(0), false, 0, 0}, {op(api.Down), fromRight, at(7), at(7), true, 0, 0},
	})
}

func TestNumbersThatNoDocumentKnows(t *testing.T) {
	k := deskWith(t, 20)
	var ops []api.Op
	for _, number := range idleNumbers {
		if number > api.Nothing && number <= api.Redo {
			continue
		}
		ops = append(ops, op(number), api.Op{Do: number, A: 1, X: 99, Back: true, Text: "x"})
	}
	for _, ends := range [][2]api.Caret{{at(0), at(0)}, {at(1), back(3)}, {back(3), at(1)}, {back(2), at(2)}} {
		k.checkIdle(t, "unknown", "abcd", ends[0], ends[1], ops...)
	}
	d := k.open(t, "ab")
	d.Do(inserting("x"))
	d.Do(inserting("y"))
	d.Do(op(api.Undo))
	for _, o := range ops {
		k.checkPaging(t, "unknown", d, []paging{{o, "xab", back(1), back(1), false, 1, 1}})
	}
}

// What an op does not ask for does not matter.
func TestOpsOfADocumentDoNotHeedWhatIsNotTheirs(t *testing.T) {
	k := deskWith(t, 20)
	for do := api.Insert; do <= api.Redo; do++ {
		var pages []api.Page
		for _, o := range []api.Op{{Do: do}, {Do: do, A: 3, X: 99, Back: true}, {Do: do, A: -3, X: -99}} {
			d := k.selectIn(t, "ab cd", at(1), at(2))
			d.Do(inserting("x"))
			d.Do(inserting("y"))
			d.Do(op(api.Undo))
			pages = append(pages, d.Do(o))
		}
		if !equalPages(pages[0], pages[1]) || !equalPages(pages[0], pages[2]) {
			t.Errorf("P28: %d: %+v", do, pages)
		}
	}
	for _, do := range []int{api.Erase, api.Delete, api.WordBack, api.WordNext} {
		d, other := k.selectIn(t, "ab cd", at(4), at(4)), k.selectIn(t, "ab cd", at(4), at(4))
		if page, told := d.Do(op(do)), other.Do(api.Op{Do: do, A: 1, Text: "xyz"}); !equalPages(page, told) {
			t.Errorf("P29: %d: %+v, with a text %+v", do, page, told)
		}
	}
}

func TestTwoDocuments(t *testing.T) {
	k := deskWith(t, 40)
	one, two := k.open(t, goalText), k.open(t, goalText)
	k.checkPaging(t, "one", one, toTheSecondLine(0, 0))
	k.checkPaging(t, "two", two, []paging{{op(api.Nothing), goalText, at(0), at(0), false, 0, 0}, {inserting("x"), "x" + goalText, back(1), back(1), true, 1, 0}, {op(api.Redo), "x" + goalText, back(1), back(1), false, 1, 0}})
	k.checkPaging(t, "one again", one, []paging{{op(api.Undo), goalText, back(7), back(7), false, 0, 0}, {op(api.Down), goalText, back(11), back(11), true, 0, 0}, {op(api.Erase), goalText[:10], back(10), back(10), true, 1, 0}})
	k.checkPaging(t, "two again", two, []paging{{op(api.Undo), goalText, at(0), at(0), true, 0, 1}, {op(api.Undo), goalText, at(0), at(0), false, 0, 1}})
	k.checkPaging(t, "one at last", one, []paging{{op(api.Redo), goalText[:10], back(10), back(10), false, 1, 0}, {op(api.Undo), goalText, back(11), back(11), true, 0, 1}})
	k.checkPaging(t, "a third one", k.open(t, goalText), []paging{{op(api.Redo), goalText, at(0), at(0), false, 0, 0}})
	// One laid out in another way.
	other := open(t, goalText, api.FromRight, api.Metric{Narrow: 1}, 6)
	if page := other.Do(op(api.Nothing)); !slices.Equal(page.Breaks, []int{7}) {
		t.Errorf("P27: %+v", page)
	}
	k.checkPaging(t, "two at last", two, []paging{{op(api.Redo), "x" + goalText, back(1), back(1), true, 1, 0}})
}

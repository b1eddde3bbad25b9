package caret_test

import (
	"slices"
	"strings"
	"testing"

	"caret/api"
	"caret/caret"
)

// desk: how a document's texts are laid out.
type desk struct {
	base  int
	m     api.Metric
	room  int
	known tables
}

func (k desk) open(t *testing.T, text string) *caret.Document {
	t.Helper()
	return open(t, text, k.base, k.m, k.room)
}

// cleanByRules: P27, as its first sentence goes.
func cleanByRules(text string, known tables) string {
	out := ""
	for _, r := range []rune(text) {
		if known.classes[r] == api.B {
			out += "\u0020"
			continue
		}
		out += string(r)
	}
	return out
}

func (k desk) widthByRules(r rune) int {
	if among(k.known.classes[r], api.NSM, api.BN, api.LRE, api.LRO, api.RLE, api.RLO, api.PDF, api.LRI, api.RLI, api.FSI, api.PDI) {
		return 0
	}
	if r < 0x1100 {
		return k.m.Narrow
	}
	return k.m.Wide
}

func (k desk) setup(text string) api.Setup {
	s := api.Setup{Text: text, Base: k.base}
	for _, r := range text {
		s.Widths = append(s.Widths, k.widthByRules(r))
	}
	s.Breaks = wrapByRules(text, s.Widths, k.room, k.known)
	return s
}

// held: what can be had back.
type held struct {
	text          string
	anchor, focus api.Caret
}

// record: a change that can be undone, or was.
type record struct {
	ahead  held // of it, or of the Redo by which it was done again
	undone int  // which of all Undos undid it; 0, if none did
	at     held // when it was undone
}

// passed: an op by which something was done, and X of Focus ahead of it.
type passed struct {
	do int
	x  int64
}

// replay: P27 to P31, as their sentences go. Each change has a record, in their order; nothing is a stack.
type replay struct {
	desk
	held
	moved   bool
	records []record
	undos   int // made so far
	way     []passed
	drawn   map[string]drawn // each text that was laid out
	setups  map[string]api.Setup
}

func (k desk) replay(text string) *replay {
	return &replay{desk: k, held: held{text: cleanByRules(text, k.known)}, drawn: map[string]drawn{}, setups: map[string]api.Setup{}}
}

func (p *replay) laid() drawn {
	if _, found := p.setups[p.text]; !found {
		p.setups[p.text] = p.setup(p.text)
		p.drawn[p.text] = drawnByRules(p.setups[p.text], p.known)
	}
	return p.drawn[p.text]
}

func (p *replay) do(o api.Op) {
	p.way = append(p.way, passed{o.Do, p.laid().xOf(p.focus)})
	var done bool
	switch {
	case among(o.Do, api.Insert, api.Erase, api.Delete):
		done = p.change(o)
		p.moved = done
	case o.Do == api.Undo:
		done = p.undo()
		p.moved = done
	case o.Do == api.Redo:
		done = p.redo()
		p.moved = done
	default:
		done = p.move(o)
	}
	if !done {
		p.way = p.way[:len(p.way)-1]
	}
}

// move: whether it is an op that moves; p.moved tells whether it did.
func (p *replay) move(o api.Op) bool {
	d, was := p.laid(), p.focus
	switch {
	case o.Do >= api.Left && o.Do <= api.Down:
		p.focus, p.moved = d.moveOf(o.Do, p.focus, p.goal())
	case o.Do == api.Click:
		p.focus = d.hitOf(o.A, o.X)
		p.moved = p.focus != was
	case o.Do == api.Set:
		p.focus = d.placeOf(api.Caret{Offset: o.A, Back: o.Back})
		p.moved = p.focus != was
	case among(o.Do, api.WordBack, api.WordNext):
		p.focus = d.placeOf(p.wordFrom(p.focus, o.Do))
		p.moved = p.focus != was
	default:
		p.moved = false
		return false
	}
	if !o.Extend {
		p.anchor = p.focus
	}
	return true
}

func (p *replay) goal() int64 {
	first := len(p.way) - 1
	for first > 0 && among(p.way[first-1].do, api.Up, api.Down) {
		first--
	}
	return p.way[first].x
}

func (p *replay) wordFrom(c api.Caret, do int) api.Caret {
	bounds := wordsByRules(p.text, p.known)
	if do == api.WordNext {
		for _, b := range bounds {
			if b > c.Offset {
				return back(b)
			}
		}
		return c
	}
	for _, b := range slices.Backward(bounds) {
		if b < c.Offset {
			return at(b)
		}
	}
	return c
}

func (p *replay) change(o api.Op) bool {
	from, to := p.anchor.Offset, p.focus.Offset
	if from > to {
		from, to = to, from
	}
	next := held{}
	inserted, selected := "", from < to
	bounds := boundsByRules(p.text, p.known.kinds)
	number := slices.Index(bounds, p.focus.Offset)
	switch {
	case o.Do == api.Insert:
		inserted = cleanByRules(o.Text, p.known)
	case selected:
	case o.Do == api.Erase && number > 0:
		from = bounds[number-1]
	case o.Do == api.Delete && number < len(bounds)-1:
		to = bounds[number+1]
	default:
		return false
	}
	next.text = p.text[:from] + inserted + p.text[to:]
	if len(next.text) > 400 {
		return false
	}
	next.focus = api.Caret{Offset: from, Back: o.Do == api.Erase || selected}
	if o.Do == api.Insert {
		bounds = boundsByRules(next.text, p.known.kinds)
		behind := slices.IndexFunc(bounds, func(b int) bool { return b >= from+len(inserted) })
		next.focus = back(bounds[behind])
	}
	p.remember()
	p.held = next
	p.focus = p.laid().placeOf(p.focus)
	p.anchor = p.focus
	return true
}

// remember: what was undone can't be done again, and of the changes that can be undone the oldest is given up.
func (p *replay) remember() {
	p.records = slices.DeleteFunc(p.records, func(r record) bool { return r.undone > 0 })
	p.records = append(p.records, record{ahead: p.held})
	if len(p.records) > 6 {
		p.records = p.records[1:]
	}
}

func (p *replay) undo() bool {
	for i := range slices.Backward(p.records) {
		r := &p.records[i]
		if r.undone == 0 {
			p.undos++
			r.undone, r.at = p.undos, p.held
			p.held = r.ahead
			return true
		}
	}
	return false
}

func (p *replay) redo() bool {
	last := -1
	for i, r := range p.records {
		if r.undone > 0 && (last < 0 || r.undone > p.records[last].undone) {
			last = i
		}
	}
	if last < 0 {
		return false
	}
	r := &p.records[last]
	r.undone, r.ahead = 0, p.held
	p.held = r.at
	return true
}

func (p *replay) page() api.Page {
	d := p.laid()
	page := api.Page{Text: p.text, Breaks: p.setups[p.text].Breaks}
	page.State = api.State{
		Anchor: p.anchor, Focus: p.focus, Gap: d.gapOf(p.focus), X: d.xOf(p.focus), Moved: p.moved,
		Before: d.gapOf(back(p.focus.Offset)), After: d.gapOf(at(p.focus.Offset)), Selected: d.selectOf(p.anchor.Offset, p.focus.Offset),
	}
	for _, r := range p.records {
		if r.undone == 0 {
			page.Undos++
		} else {
			page.Redos++
		}
	}
	return page
}

func equalPages(a, b api.Page) bool {
	return equalStates(a.State, b.State) && a.Text == b.Text && slices.Equal(a.Breaks, b.Breaks) && a.Undos == b.Undos && a.Redos == b.Redos
}

func (p *replay) check(t *testing.T, opened string, d *caret.Document, ops []api.Op) {
	t.Helper()
	for i, o := range ops {
		p.do(o)
		if got, want := d.Do(o), p.page(); !equalPages(got, want) {
			t.Fatalf("P27 to P31: %+q, base %d, %+v, room %d: behind %+v: %+v, want %+v", opened, p.base, p.m, p.room, ops[:i+1], got, want)
		}
	}
}

func inserting(text string) api.Op { return api.Op{Do: api.Insert, Text: text} }

// Each way to do four of these ops, with marks, flags and blanks that join and part what stands around them.
func TestShortDocuments(t *testing.T) {
	known := bothTables(t)
	ops := []api.Op{
		inserting("b"), inserting("\u0301"), inserting(""), extended(inserting(" \n")), op(api.Erase), extended(op(api.Delete)),
		extended(op(api.Prev)), op(api.WordNext), op(api.Up), op(api.Undo), op(api.Redo),
	}
	for _, text := range []string{"a\u200B\u0301 \u05D0", "\U0001F1E6\U0001F1E7\U0001F1E8"} {
		k := desk{base: 0, m: metric, room: 25, known: known}
		p := k.replay(text)
		eachSession(ops, 4, func(done []api.Op) {
			p.held, p.records, p.undos, p.way = held{text: text}, nil, 0, nil
			p.check(t, text, k.open(t, text), done)
		})
	}
}

// More changes than can be undone, then each way to do six of these.
func TestUndoAndRedoInEachOrder(t *testing.T) {
	k := desk{base: 0, m: metric, room: 40, known: bothTables(t)}
	var first []api.Op
	for _, text := range strings.Split("a b c d e f g", " ") {
		first = append(first, inserting(text))
	}
	p := k.replay("")
	eachSession([]api.Op{inserting("x"), op(api.Undo), op(api.Redo), extended(op(api.Prev))}, 6, func(done []api.Op) {
		p.held, p.records, p.undos, p.way = held{}, nil, 0, nil
		p.check(t, "", k.open(t, ""), slices.Concat(first, []api.Op{op(api.Undo), op(api.Undo), op(api.Undo)}, done))
	})
}

// anyChange: each kind about as often as any other; what is inserted may be not clean, nothing, or long.
func (d *dice) anyChange(parts []string) api.Op {
	o := api.Op{Do: []int{api.Insert, api.Insert, api.Erase, api.Delete, api.Undo, api.Redo}[d.below(6)], Extend: d.below(2) == 0}
	if o.Do == api.Insert {
		o.Text = d.text(parts, 5)
		if d.below(8) == 0 {
			o.Text = strings.Repeat(o.Text, 20)
		}
	}
	return o
}

func (d *dice) anyDeskOps(text string, parts []string, count int) []api.Op {
	var ops []api.Op
	for range count {
		if d.below(2) == 0 {
			ops = append(ops, d.anyChange(parts))
			continue
		}
		ops = append(ops, d.anyOp(api.Setup{Text: text, Breaks: make([]int, 3)}))
	}
	return ops
}

func (d *dice) anyDesk(known tables) desk {
	widths := []int{0, 1, 5, 10, 20, 1 << 30}
	rooms := []int{-1, 0, 10, 25, 25, 60, 60, 100, 1 << 31, 1 << 40}
	return desk{d.below(3), api.Metric{Narrow: widths[d.below(len(widths))], Wide: widths[d.below(len(widths))]}, rooms[d.below(len(rooms))], known}
}

func TestLongDocuments(t *testing.T) {
	known := bothTables(t)
	chance := dice(67)
	for _, parts := range [][]string{runners, pieces, spelled("L R EN WS"), {"a", " ", "b", "\u05D0", ", ", "\u0301", "\u1100\u1160", "\n"}} {
		for range 100 {
			text := chance.text(parts, 20)
			k := chance.anyDesk(known)
			k.replay(text).check(t, text, k.open(t, text), chance.anyDeskOps(text, parts, 40))
		}
	}
}

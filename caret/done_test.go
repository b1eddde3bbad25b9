package caret_test

import (
	"math"
	"testing"

	"caret/api"
	"caret/caret"
)

// replayed: P22 to P24 of all ops of a session, as their sentences go: the state behind the last one.
func (d drawn) replayed(ops []api.Op) api.State {
	anchor, focus, moved := d.placeOf(api.Caret{}), d.placeOf(api.Caret{}), false
	var stood []int64 // X of Focus ahead of each op
	for i, o := range ops {
		stood = append(stood, d.xOf(focus))
		was := focus
		switch {
		case o.Do >= api.Left && o.Do <= api.Down:
			focus, moved = d.moveOf(o.Do, focus, stood[firstOfSeveral(ops, i)])
		case o.Do == api.Click:
			focus = d.hitOf(o.A, o.X)
			moved = focus != was
		case o.Do == api.Set:
			focus = d.placeOf(api.Caret{Offset: o.A, Back: o.Back})
			moved = focus != was
		default:
			moved = false
			continue
		}
		if !o.Extend {
			anchor = focus
		}
	}
	return api.State{
		Anchor: anchor, Focus: focus, Gap: d.gapOf(focus), X: d.xOf(focus), Moved: moved,
		Before: d.gapOf(back(focus.Offset)), After: d.gapOf(at(focus.Offset)), Selected: d.selectOf(anchor.Offset, focus.Offset),
	}
}

func (d drawn) xOf(c api.Caret) int64 {
	g := d.gapOf(c)
	return d.lines[g.Line].X[g.Gap]
}

// firstOfSeveral: looking back from an op, the first of the Ups and Downs that follow one another.
func firstOfSeveral(ops []api.Op, from int) int {
	first := from
	for i := from; i >= 0; i-- {
		switch {
		case among(ops[i].Do, api.Up, api.Down):
			first = i
		case ops[i].Do >= api.Left && ops[i].Do <= api.Set:
			return first
		}
	}
	return first
}

func (d drawn) checkSession(t *testing.T, s api.Setup, l *caret.Layout, ops []api.Op) {
	t.Helper()
	e := begin(t, l)
	for i, o := range ops {
		if got, want := e.Do(o), d.replayed(ops[:i+1]); !equalStates(got, want) {
			t.Fatalf("P22 to P24: %+q, base %d, widths %v, breaks %v: behind %+v: %+v, want %+v", s.Text, s.Base, s.Widths, s.Breaks, ops[:i+1], got, want)
		}
	}
}

// eachSession: each way to do this many of the ops.
func eachSession(ops []api.Op, count int, do func([]api.Op)) {
	var grow func(done []api.Op)
	grow = func(done []api.Op) {
		if len(done) == count {
			do(done)
			return
		}
		for _, o := range ops {
			grow(append(done[:len(done):len(done)], o))
		}
	}
	grow(nil)
}

func TestShortSessions(t *testing.T) {
	known := bothTables(t)
	ops := []api.Op{
		op(api.Left), extended(op(api.Right)), op(api.Prev), extended(op(api.Next)), op(api.Home), extended(op(api.End)),
		op(api.Up), extended(op(api.Up)), op(api.Down), extended(op(api.Down)),
		clickAt(1, 14), extended(clickAt(0, 20)), setTo(at(4)), extended(setTo(back(2))), op(api.Nothing), extended(op(api.WordNext)),
	}
	for base := range 2 {
		s := set("a b R | R | WS a R b", base)
		d, l := drawnByRules(s, known), lay(t, s)
		eachSession(ops, 4, func(done []api.Op) { d.checkSession(t, s, l, done) })
	}
}

// anyOp: each kind about as often as any other, at bytes and places that there are or are not.
func (d *dice) anyOp(s api.Setup) api.Op {
	o := api.Op{Do: d.below(api.Redo+4) - 2, Extend: d.below(2) == 0, Back: d.below(2) == 0, Text: "x"}
	switch d.below(3) {
	case 0: // as often as not several Ups and Downs, one behind the other
		o.Do = api.Up + d.below(2)
	case 1:
		o.Do = d.below(api.Nothing)
	}
	o.A = d.below(len(s.Text)+4) - 2
	if o.Do == api.Click {
		o.A = d.below(len(s.Breaks)+4) - 2
	}
	places := []int64{math.MinInt64, -1, 0, 1, 2, 5, 9, 14, 25, 60, 1 << 30, 1<<30 + 7, 3 << 29, math.MaxInt64}
	o.X = places[d.below(len(places))]
	return o
}

func TestLongSessions(t *testing.T) {
	known := bothTables(t)
	chance := dice(29)
	for _, parts := range [][]string{runners, pieces, spelled("L R EN WS"), spelled("L L R AN NSM S BN PDI RLI")} {
		for range 40 {
			s := chance.anySetup(without(parts, known), 40, true, known)
			var ops []api.Op
			for range 30 {
				ops = append(ops, chance.anyOp(s))
			}
			drawnByRules(s, known).checkSession(t, s, lay(t, s), ops)
		}
	}
}

package layouts

import "caret/api"

// Move moves a caret, and tells whether it went anywhere. What stands at another gap is another caret, so asking whether it is another one is enough for each way to move.
func (l *Layout) Move(do int, c api.Caret, goal int64) (api.Caret, bool) {
	from := l.Place(c)
	to := l.target(do, from, goal)
	return to, to != from
}

// target is where a caret goes: it stays where there is nowhere to go.
func (l *Layout) target(do int, c api.Caret, goal int64) api.Caret {
	switch do {
	case api.Left:
		return l.toLeft(c)
	case api.Right:
		return l.toRight(c)
	case api.Next:
		return l.Place(api.Caret{Offset: l.bound(l.at(c.Offset) + 1), Back: true})
	case api.Prev:
		return l.Place(api.Caret{Offset: l.bound(l.at(c.Offset) - 1)})
	case api.Home:
		return l.Place(api.Caret{Offset: l.lineOf(c).From})
	case api.End:
		return l.Place(api.Caret{Offset: l.lineOf(c).To, Back: true})
	case api.Up:
		return l.across(c, -1, goal)
	case api.Down:
		return l.across(c, 1, goal)
	}
	return c
}

func (l *Layout) lineOf(c api.Caret) api.Line { return l.lines[l.Gap(c).Line] }

func (l *Layout) toRight(c api.Caret) api.Caret {
	g := l.Gap(c)
	if g.Gap < l.lastGap(g.Line) {
		return l.Normal(api.Gap{Line: g.Line, Gap: g.Gap + 1})
	}
	line := g.Line + l.rightward
	if !l.has(line) {
		return c
	}
	return l.Normal(api.Gap{Line: line})
}

func (l *Layout) toLeft(c api.Caret) api.Caret {
	g := l.Gap(c)
	if g.Gap > 0 {
		return l.Normal(api.Gap{Line: g.Line, Gap: g.Gap - 1})
	}
	line := g.Line - l.rightward
	if !l.has(line) {
		return c
	}
	return l.Normal(api.Gap{Line: line, Gap: l.lastGap(line)})
}

// across goes to a line ahead (by -1) or behind (by 1), as near to the goal as can be.
func (l *Layout) across(c api.Caret, by int, goal int64) api.Caret {
	line := l.Gap(c).Line + by
	if !l.has(line) {
		return c
	}
	return l.Hit(line, goal)
}

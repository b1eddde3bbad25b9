// Package sessions: what is selected in a layout, and how that is changed step by step.
package sessions

import (
	"caret/api"
	"caret/layouts"
)

// Session is where a selection begins and ends.
type Session struct {
	layout        *layouts.Layout
	anchor, focus api.Caret
	aiming        bool  // the last deed went for the goal
	goal          int64 // where the focus stood when the first of such deeds began; of no meaning while not aiming
}

// Begin begins a session at the beginning of a text: byte 0 is the caret that is meant there, whatever the text.
func Begin(l *layouts.Layout) *Session { return &Session{layout: l} }

// Resume begins a session in which something is selected already.
func Resume(l *layouts.Layout, anchor, focus api.Caret) *Session {
	return &Session{layout: l, anchor: l.Place(anchor), focus: l.Place(focus)}
}

// Ends tells where the selection begins and where it ends.
func (s *Session) Ends() (anchor, focus api.Caret) { return s.anchor, s.focus }

// Do does something, and tells what has come of it.
func (s *Session) Do(op api.Op) api.State {
	todo := deedOf(op)
	if todo == nil {
		return s.State(false)
	}
	s.aim(todo.aims())
	to, moved := s.target(todo)
	s.focus = to
	if !op.Extend {
		s.anchor = to
	}
	return s.State(moved)
}

// aim sets the goal ahead of the first deed that goes for it.
func (s *Session) aim(aims bool) {
	if aims && !s.aiming {
		s.goal = s.layout.X(s.focus)
	}
	s.aiming = aims
}

// target is where the focus goes, and whether it moves there.
func (s *Session) target(todo deed) (api.Caret, bool) {
	to := s.focus
	switch todo := todo.(type) {
	case step:
		return s.layout.Move(int(todo), s.focus, 0)
	case crossing:
		return s.layout.Move(int(todo), s.focus, s.goal)
	case click:
		to = s.layout.Hit(todo.line, todo.x)
	case jump:
		to = s.layout.Place(api.Caret(todo))
	}
	return to, to != s.focus
}

// State tells what the session is, behind something that moved or did not.
func (s *Session) State(moved bool) api.State {
	l, at := s.layout, s.focus.Offset
	return api.State{
		Anchor:   s.anchor,
		Focus:    s.focus,
		Gap:      l.Gap(s.focus),
		X:        l.X(s.focus),
		Before:   l.Gap(api.Caret{Offset: at, Back: true}),
		After:    l.Gap(api.Caret{Offset: at}),
		Selected: l.Select(s.anchor.Offset, at),
		Moved:    moved,
	}
}

package sessions

import "caret/api"

// deed is what is to be done to a focus. Its kind is told where it is done.
type deed interface {
	// aims tells whether it goes for the goal; each one that does not lets the goal drop.
	aims() bool
}

type (
	// step goes on from where the focus stands: Left to End.
	step int
	// crossing goes to another line: Up, Down.
	crossing int
	// click points at a place on a line.
	click struct {
		line int
		x    int64
	}
	// jump goes to a byte.
	jump api.Caret
)

func (step) aims() bool     { return false }
func (crossing) aims() bool { return true }
func (click) aims() bool    { return false }
func (jump) aims() bool     { return false }

// deedOf tells what an op asks for; nil, if nothing is to be done.
func deedOf(op api.Op) deed {
	switch op.Do {
	case api.Left, api.Right, api.Next, api.Prev, api.Home, api.End:
		return step(op.Do)
	case api.Up, api.Down:
		return crossing(op.Do)
	case api.Click:
		return click{line: op.A, x: op.X}
	case api.Set:
		return jump{Offset: op.A, Back: op.Back}
	}
	return nil
}

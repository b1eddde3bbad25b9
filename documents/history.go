package documents

import (
	"slices"

	"caret/api"
)

// moment is what of a document can be had back: all else follows from it.
type moment struct {
	text          string
	anchor, focus api.Caret
}

// history is what can be had back: by Undo and by Redo, the next one last.
type history struct{ undos, redos []moment }

// record remembers what was ahead of a change.
func (h *history) record(was moment) {
	undos := append(h.undos, was)
	h.undos = slices.Delete(undos, 0, max(len(undos)-api.MaxUndo, 0))
	h.redos = nil
}

// back tells what was ahead of the last change, and remembers what is now for a Redo; false, if there is none.
func (h *history) back(now moment) (moment, bool) { return trade(&h.undos, &h.redos, now) }

// forth tells what was ahead of the last Undo, and remembers what is now for another one; false, if there is none.
func (h *history) forth(now moment) (moment, bool) { return trade(&h.redos, &h.undos, now) }

// trade takes the last moment off one list, and puts another one on the other list. Neither becomes too long by that, as both together stay as long as they were.
func trade(off, on *[]moment, now moment) (moment, bool) {
	last := len(*off) - 1
	if last < 0 {
		return moment{}, false
	}
	then := (*off)[last]
	*off = slices.Delete(*off, last, last+1)
	*on = append(*on, now)
	return then, true
}

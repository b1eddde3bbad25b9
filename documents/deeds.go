package documents

import (
	"caret/api"
	"caret/clusters"
	"caret/words"
)

// deed is what is to be done to a document. Its kind is told where it is done.
type deed interface{ isDeed() }

type (
	// motion is what a session does by itself, which leaves undone what it does not know.
	motion api.Op
	// change puts a text in place of what stands between two bytes.
	change struct {
		from, to int
		text     string
		up       bool // the focus goes up, not down, where the end of the text has come to stand within a cluster
		back     bool // of the focus
	}
	undoing struct{}
	redoing struct{}
)

func (motion) isDeed()  {}
func (change) isDeed()  {}
func (undoing) isDeed() {}
func (redoing) isDeed() {}

// deedOf tells what an op asks for; nil, if nothing is to be done.
func (d *Document) deedOf(op api.Op) deed {
	switch op.Do {
	case api.WordBack:
		return motion{Do: api.Set, A: ahead(words.Bounds(d.text), d.focus()), Extend: op.Extend}
	case api.WordNext:
		return motion{Do: api.Set, A: behind(words.Bounds(d.text), d.focus()), Back: true, Extend: op.Extend}
	case api.Insert:
		return d.insertion(op.Text)
	case api.Erase:
		return d.erasure()
	case api.Delete:
		return d.deletion()
	case api.Undo:
		return undoing{}
	case api.Redo:
		return redoing{}
	}
	return motion(op)
}

// ahead is the next boundary ahead of a byte; 0, if there is none.
func ahead(bounds []int, offset int) int { return clusters.SnapAmong(bounds, offset-1, false) }

// behind is the next boundary behind a byte; the end, if there is none.
func behind(bounds []int, offset int) int { return clusters.SnapAmong(bounds, offset+1, true) }

func (d *Document) insertion(text string) deed {
	from, to := d.selected()
	return change{from: from, to: to, text: clean(text), up: true, back: true}
}

func (d *Document) erasure() deed {
	from, to := d.selected()
	if from == to {
		from = ahead(clusters.Bounds(d.text), to)
	}
	return removal(from, to, true)
}

func (d *Document) deletion() deed {
	from, to := d.selected()
	alone := from == to
	if alone {
		to = behind(clusters.Bounds(d.text), from)
	}
	return removal(from, to, !alone)
}

// removal takes out what stands between two bytes; unlike an insertion of no text, that of nothing is not a change.
func removal(from, to int, back bool) deed {
	if from == to {
		return nil
	}
	return change{from: from, to: to, back: back}
}

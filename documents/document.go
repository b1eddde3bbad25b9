// Package documents: texts that are changed, laid out anew, and can be had back.
package documents

import (
	"slices"

	"caret/api"
	"caret/clusters"
	"caret/layouts"
	"caret/sessions"
	"caret/setups"
	"caret/words"
)

// Document is a text, how it is laid out, what is selected of it, and what it was.
type Document struct {
	base   int
	metric api.Metric
	room   int

	text    string
	breaks  []int
	session *sessions.Session
	history
}

// Open begins a document; what goes wrong is a setups.Fault.
func Open(text string, base int, m api.Metric, room int) (*Document, error) {
	text = clean(text)
	if err := check(text, base, m); err != nil {
		return nil, err
	}
	d := &Document{base: base, metric: m, room: room}
	d.turnTo(moment{text: text})
	return d, nil
}

func check(text string, base int, m api.Metric) error {
	if err := setups.CheckText(text, base); err != nil {
		return err
	}
	return setups.CheckMetric(m)
}

// Do does something, and tells what has come of it.
func (d *Document) Do(op api.Op) api.Page {
	done := false
	switch todo := d.deedOf(op).(type) {
	case motion:
		return d.page(d.session.Do(api.Op(todo)))
	case change:
		done = d.change(todo)
	case undoing:
		done = d.undo()
	case redoing:
		done = d.redo()
	}
	return d.page(d.session.State(done))
}

// change makes a change, and tells whether there was room for it.
func (d *Document) change(c change) bool {
	text := d.text[:c.from] + c.text + d.text[c.to:]
	if len(text) > api.MaxText {
		return false
	}
	d.record(d.now())
	focus := api.Caret{Offset: clusters.Snap(text, c.from+len(c.text), c.up), Back: c.back}
	d.turnTo(moment{text, focus, focus})
	return true
}

func (d *Document) undo() bool {
	then, found := d.back(d.now())
	if found {
		d.turnTo(then)
	}
	return found
}

func (d *Document) redo() bool {
	then, found := d.forth(d.now())
	if found {
		d.turnTo(then)
	}
	return found
}

func (d *Document) now() moment {
	anchor, focus := d.session.Ends()
	return moment{d.text, anchor, focus}
}

// turnTo makes a moment the present. Nothing can be wrong with the setup: its text is clean and not too long, and is broken between clusters. The session is a new one, lest the goal be kept.
func (d *Document) turnTo(m moment) {
	widths := widthsOf(m.text, d.metric)
	d.text = m.text
	d.breaks = words.Wrap(m.text, widths, d.room)
	laid := layouts.Lay(api.Setup{Text: m.text, Base: d.base, Widths: widths, Breaks: d.breaks})
	d.session = sessions.Resume(laid, m.anchor, m.focus)
}

// selected tells the bytes between which the selection stands.
func (d *Document) selected() (from, to int) {
	anchor, focus := d.session.Ends()
	return min(anchor.Offset, focus.Offset), max(anchor.Offset, focus.Offset)
}

func (d *Document) focus() int {
	_, focus := d.session.Ends()
	return focus.Offset
}

func (d *Document) page(s api.State) api.Page {
	return api.Page{State: s, Text: d.text, Breaks: slices.Clone(d.breaks), Undos: len(d.undos), Redos: len(d.redos)}
}

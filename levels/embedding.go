package levels

import "caret/api"

// none is no class: no override, no side.
const none api.Class = -1

type entry struct {
	level    int
	override api.Class
	isolate  bool
}

// embedding is what is open at a place. What is too many is counted, as its end must not end something else.
type embedding struct {
	stack             []entry
	isolatesTooMany   int
	embeddingsTooMany int
	isolatesOpen      int
}

func (p *paragraph) embed() {
	e := embedding{stack: []entry{{level: p.level, override: none}}}
	for place := range p.units {
		u := &p.units[place]
		switch u.known {
		case api.LRE, api.RLE, api.LRO, api.RLO:
			e.begin(u.known)
		case api.PDF:
			e.end()
		case api.LRI, api.RLI, api.FSI:
			e.hold(u)
			e.beginIsolate(p.isolatesRight(place))
		case api.PDI:
			e.endIsolate()
			e.hold(u)
		case api.B:
			u.level = p.level
		case api.BN:
		default:
			e.hold(u)
		}
	}
}

func (e *embedding) last() entry { return e.stack[len(e.stack)-1] }

func (e *embedding) put(next entry) { e.stack = append(e.stack, next) }

func (e *embedding) takeOff() { e.stack = e.stack[:len(e.stack)-1] }

func (e *embedding) hold(u *unit) {
	last := e.last()
	u.level = last.level
	if last.override != none {
		u.class = last.override
	}
}

// next is the next greater level that is odd (to the right) or even.
func (e *embedding) next(right bool) int {
	level := e.last().level + 1
	if level%2 != levelToward(right) {
		level++
	}
	return level
}

func (e *embedding) hasRoom(level int) bool {
	return level <= api.MaxDepth && e.isolatesTooMany == 0 && e.embeddingsTooMany == 0
}

func (e *embedding) begin(known api.Class) {
	level := e.next(known == api.RLE || known == api.RLO)
	switch {
	case e.hasRoom(level):
		e.put(entry{level: level, override: overrideOf(known)})
	case e.isolatesTooMany == 0:
		e.embeddingsTooMany++
	}
}

func overrideOf(known api.Class) api.Class {
	switch known {
	case api.LRO:
		return api.L
	case api.RLO:
		return api.R
	}
	return none
}

func (e *embedding) end() {
	switch {
	case e.isolatesTooMany > 0:
	case e.embeddingsTooMany > 0:
		e.embeddingsTooMany--
	case !e.last().isolate && len(e.stack) > 1:
		e.takeOff()
	}
}

func (e *embedding) beginIsolate(right bool) {
	level := e.next(right)
	if !e.hasRoom(level) {
		e.isolatesTooMany++
		return
	}
	e.isolatesOpen++
	e.put(entry{level: level, override: none, isolate: true})
}

func (e *embedding) endIsolate() {
	switch {
	case e.isolatesTooMany > 0:
		e.isolatesTooMany--
	case e.isolatesOpen > 0:
		e.embeddingsTooMany = 0
		for !e.last().isolate {
			e.takeOff()
		}
		e.takeOff()
		e.isolatesOpen--
	}
}

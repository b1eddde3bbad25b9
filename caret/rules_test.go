package caret_test

import (
	"slices"
	"testing"

	"caret/api"
	"caret/caret"
)

// reading: the document's rules of levels, each as its sentence goes, looking back and forth for itself.
type reading struct {
	runes     []rune
	known     []api.Class // by the table
	class     []api.Class
	level     []int // as embedded
	grown     []int // as it is at last
	paragraph int
}

const noClass api.Class = -1

func isInitiator(c api.Class) bool { return among(c, api.LRI, api.RLI, api.FSI) }

func isPassedOver(c api.Class) bool {
	return among(c, api.BN, api.RLE, api.LRE, api.RLO, api.LRO, api.PDF)
}

func levelsByRules(text string, base int, classOf map[rune]api.Class) ([]int, int) {
	d := &reading{runes: []rune(text)}
	for _, r := range d.runes {
		d.known = append(d.known, classOf[r])
	}
	d.class = slices.Clone(d.known)
	d.level = make([]int, len(d.runes))
	d.grown = make([]int, len(d.runes))
	d.paragraph = base
	if base == 2 {
		d.paragraph = d.strongLevel(0, len(d.runes))
	}
	d.embed()
	for _, places := range d.sequences() {
		d.settle(places)
	}
	for i := range d.runes {
		switch {
		case isPassedOver(d.known[i]) && i == 0:
			d.grown[i] = d.paragraph
		case isPassedOver(d.known[i]):
			d.grown[i] = d.grown[i-1]
		}
	}
	return d.grown, d.paragraph
}

// partner: or the text's end.
func (d *reading) partner(i int) int {
	initiators, ends := 0, 0
	for j := i; j < len(d.runes); j++ {
		if isInitiator(d.known[j]) {
			initiators++
		}
		if d.known[j] == api.PDI {
			ends++
			if ends == initiators {
				return j
			}
		}
	}
	return len(d.runes)
}

// strongLevel: 1, if the first strong of a part is R or AL, else 0.
func (d *reading) strongLevel(from, to int) int {
	for i := from; i < to; i++ {
		within := false
		for j := from; j < i; j++ {
			within = within || isInitiator(d.known[j]) && i < d.partner(j)
		}
		if !within && among(d.known[i], api.L, api.R, api.AL) {
			if d.known[i] == api.L {
				return 0
			}
			return 1
		}
	}
	return 0
}

type stacked struct {
	level    int
	override api.Class
	isolate  bool
}

// counts: rule 2's stack and its three counts.
type counts struct {
	stack                                            []stacked
	isolatesTooMany, embeddingsTooMany, isolatesOpen int
}

func (n *counts) last() stacked { return n.stack[len(n.stack)-1] }

func (n *counts) next(parity int) int {
	level := n.last().level + 1
	for level%2 != parity {
		level++
	}
	return level
}

func (n *counts) put(e stacked) {
	switch {
	case e.level <= 9 && n.isolatesTooMany == 0 && n.embeddingsTooMany == 0:
		n.stack = append(n.stack, e)
		if e.isolate {
			n.isolatesOpen++
		}
	case e.isolate:
		n.isolatesTooMany++
	case n.isolatesTooMany == 0:
		n.embeddingsTooMany++
	}
}

func (n *counts) endIsolate() {
	if n.isolatesTooMany > 0 {
		n.isolatesTooMany--
	} else if n.isolatesOpen > 0 {
		n.embeddingsTooMany = 0
		for !n.last().isolate {
			n.stack = n.stack[:len(n.stack)-1]
		}
		n.stack = n.stack[:len(n.stack)-1]
		n.isolatesOpen--
	}
}

func (n *counts) endEmbedding() {
	if n.isolatesTooMany == 0 {
		if n.embeddingsTooMany > 0 {
			n.embeddingsTooMany--
		} else if !n.last().isolate && len(n.stack) > 1 {
			n.stack = n.stack[:len(n.stack)-1]
		}
	}
}

func (d *reading) embed() {
	n := &counts{stack: []stacked{{d.paragraph, noClass, false}}}
	take := func(i int) {
		d.level[i] = n.last().level
		if n.last().override != noClass {
			d.class[i] = n.last().override
		}
	}
	for i, class := range d.known {
		switch class {
		case api.RLE:
			n.put(stacked{n.next(1), noClass, false})
		case api.LRE:
			n.put(stacked{n.next(0), noClass, false})
		case api.RLO:
			n.put(stacked{n.next(1), api.R, false})
		case api.LRO:
			n.put(stacked{n.next(0), api.L, false})
		case api.RLI:
			take(i)
			n.put(stacked{n.next(1), noClass, true})
		case api.LRI:
			take(i)
			n.put(stacked{n.next(0), noClass, true})
		case api.FSI:
			take(i)
			n.put(stacked{n.next(d.strongLevel(i+1, d.partner(i))), noClass, true})
		case api.PDI:
			n.endIsolate()
			take(i)
		case api.PDF:
			n.endEmbedding()
		case api.B:
			d.level[i] = d.paragraph
		case api.BN:
		default:
			take(i)
		}
	}
}

// sequences: the places of the runes of each.
func (d *reading) sequences() [][]int {
	var runs [][]int
	last := -1
	for i := range d.runes {
		if isPassedOver(d.known[i]) {
			continue
		}
		if last < 0 || d.level[i] != d.level[last] {
			runs = append(runs, nil)
		}
		runs[len(runs)-1] = append(runs[len(runs)-1], i)
		last = i
	}
	follows := func(one, other []int) bool {
		end := one[len(one)-1]
		return isInitiator(d.known[end]) && d.partner(end) == other[0]
	}
	var all [][]int
	for _, run := range runs {
		if slices.ContainsFunc(runs, func(other []int) bool { return follows(other, run) }) {
			continue
		}
		places := slices.Clone(run)
		for _, other := range runs {
			// Those that follow stand behind, in their order.
			if follows(places, other) {
				places = append(places, other...)
			}
		}
		all = append(all, places)
	}
	return all
}

func (d *reading) beside(i, step int) int {
	for i += step; i >= 0 && i < len(d.runes); i += step {
		if !isPassedOver(d.known[i]) {
			return d.level[i]
		}
	}
	return d.paragraph
}

func sideOf(level int) api.Class {
	return []api.Class{api.L, api.R}[level%2]
}

// settle: rules 3 (Before, Behind) to 7; c are the classes of the sequence.
func (d *reading) settle(places []int) {
	first, last := places[0], places[len(places)-1]
	level := d.level[first]
	beside := d.beside(last, 1)
	if isInitiator(d.known[last]) {
		beside = d.paragraph
	}
	before, behind, own := sideOf(max(level, d.beside(first, -1))), sideOf(max(level, beside)), sideOf(level)
	var known, c []api.Class
	var runes []rune
	for _, i := range places {
		known = append(known, d.known[i])
		c = append(c, d.class[i])
		runes = append(runes, d.runes[i])
	}
	settleWeak(known, c, before)
	settleBrackets(known, c, runes, before, own)
	settleNeutral(c, before, behind, own)
	for k, i := range places {
		grows := map[api.Class]int{api.R: 1, api.EN: 2, api.AN: 2}
		if level%2 == 1 {
			grows = map[api.Class]int{api.L: 1, api.EN: 1, api.AN: 1}
		}
		d.grown[i] = level + grows[c[k]]
	}
}

// lastOf: the last of some classes ahead of a place, or Before.
func lastOf(c []api.Class, i int, before api.Class, classes ...api.Class) api.Class {
	for i--; i >= 0; i-- {
		if among(c[i], classes...) {
			return c[i]
		}
	}
	return before
}

// eachOf: what each rune of a class becomes, one behind the other.
func eachOf(c []api.Class, class api.Class, becomes func(i int) api.Class) {
	for i := range c {
		if c[i] == class {
			c[i] = becomes(i)
		}
	}
}

func settleWeak(known, c []api.Class, before api.Class) {
	eachOf(c, api.NSM, func(i int) api.Class {
		switch {
		case i == 0:
			return before
		case isInitiator(known[i-1]) || known[i-1] == api.PDI:
			return api.ON
		}
		return c[i-1]
	})
	eachOf(c, api.EN, func(i int) api.Class {
		if lastOf(c, i, before, api.R, api.L, api.AL) == api.AL {
			return api.AN
		}
		return api.EN
	})
	eachOf(c, api.AL, func(int) api.Class { return api.R })
	settleSigns(c)
	for _, class := range []api.Class{api.ES, api.ET, api.CS} {
		eachOf(c, class, func(int) api.Class { return api.ON })
	}
	eachOf(c, api.EN, func(i int) api.Class {
		if lastOf(c, i, before, api.R, api.L) == api.L {
			return api.L
		}
		return api.EN
	})
}

// settleSigns: ES, CS and ET beside numbers.
func settleSigns(c []api.Class) {
	at := func(i int) api.Class {
		if i < 0 || i >= len(c) {
			return noClass
		}
		return c[i]
	}
	eachOf(c, api.ES, func(i int) api.Class {
		if at(i-1) == api.EN && at(i+1) == api.EN {
			return api.EN
		}
		return api.ES
	})
	eachOf(c, api.CS, func(i int) api.Class {
		if at(i-1) == at(i+1) && among(at(i-1), api.EN, api.AN) {
			return at(i - 1)
		}
		return api.CS
	})
	eachOf(c, api.ET, func(i int) api.Class {
		from, to := i, i
		for at(from) == api.ET {
			from--
		}
		for at(to) == api.ET {
			to++
		}
		if at(from) == api.EN || at(to) == api.EN {
			return api.EN
		}
		return api.ET
	})
}

// asStrong: EN and AN as R.
func asStrong(class api.Class) api.Class {
	if among(class, api.EN, api.AN) {
		return api.R
	}
	return class
}

// bracketPairs: of each opening bracket's place the closing one's; 0: none.
func bracketPairs(c []api.Class, runes []rune) []int {
	opening, closing := []rune("([{\u3008\u300A"), []rune(")]}\u3009\u300B")
	var stack []int
	pairs := make([]int, len(c))
	for i, r := range runes {
		if c[i] != api.ON {
			continue
		}
		if slices.Contains(opening, r) {
			if len(stack) == 8 {
				return pairs
			}
			stack = append(stack, i)
		}
		if k := slices.Index(closing, r); k >= 0 {
			for j := len(stack) - 1; j >= 0; j-- {
				if runes[stack[j]] == opening[k] {
					pairs[stack[j]] = i
					stack = stack[:j]
					break
				}
			}
		}
	}
	return pairs
}

func settleBrackets(known, c []api.Class, runes []rune, before, own api.Class) {
	other := api.L + api.R - own
	for i, j := range bracketPairs(c, runes) {
		if j == 0 {
			continue
		}
		var between []api.Class
		for _, class := range c[i+1 : j] {
			between = append(between, asStrong(class))
		}
		if !slices.Contains(between, own) && !slices.Contains(between, other) {
			continue
		}
		becomes := own
		if !slices.Contains(between, own) && asStrong(lastOf(c, i, before, api.L, api.R, api.EN, api.AN)) == other {
			becomes = other
		}
		for _, at := range []int{i, j} {
			c[at] = becomes
			for at++; at < len(c) && known[at] == api.NSM; at++ {
				c[at] = becomes
			}
		}
	}
}

func settleNeutral(c []api.Class, before, behind, own api.Class) {
	was := slices.Clone(c)
	// What stands ahead or behind of the neutrals about a place.
	side := func(i, step int, end api.Class) api.Class {
		for ; i >= 0 && i < len(was); i += step {
			if among(was[i], api.L, api.R, api.EN, api.AN) {
				return asStrong(was[i])
			}
		}
		return end
	}
	for i, class := range was {
		if !among(class, api.B, api.S, api.WS, api.ON, api.LRI, api.RLI, api.FSI, api.PDI) {
			continue
		}
		c[i] = own
		if ahead := side(i, -1, before); ahead == side(i, 1, behind) {
			c[i] = ahead
		}
	}
}

func TestLevelsOfManyTexts(t *testing.T) {
	classOf := wantedClasses(t)
	check := func(text string) {
		for base := range 3 {
			want, wantParagraph := levelsByRules(text, base, classOf)
			levels, paragraph, err := caret.Levels(text, base)
			if err != api.OK || paragraph != wantParagraph || !slices.Equal(levels, want) {
				t.Fatalf("P7: Levels(%+q, %d) = %v, %d, %d, want %v, %d", text, base, levels, paragraph, err, want, wantParagraph)
			}
		}
	}
	for text := range allTexts(runners, 3) {
		check(text)
	}
	for _, words := range []string{"L R ( ) [ ] NSM", "R EN AN ES CS ET", "L R LRI RLI PDI B", "L R RLO LRE PDF PDI", "L R WS FSI PDI B", "AL EN L BN NSM CS", "LRE RLE LRI PDI PDF R"} {
		for text := range allTexts(spelled(words), 5) {
			check(text)
		}
	}
	for text := range anyTextsOf(runners, 60, 8000) {
		check(text)
	}
	for text := range anyTextsOf(pieces, 60, 500) {
		check(text)
	}
	deep := spelled("L LRE RLE LRO RLO LRI RLI FSI LRI RLI FSI LRE RLE PDF PDI PDI EN ( )")
	for text := range anyTextsOf(deep, 133, 4000) {
		check(text)
	}
}

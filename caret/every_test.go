package caret_test

import (
	"math"
	"slices"
	"strings"
	"sync"
	"testing"

	"caret/api"
	"caret/caret"
)

// leveled: what Levels answers.
type leveled struct {
	levels    []int
	paragraph int
	err       api.Errno
}

func (a leveled) equal(b leveled) bool {
	return slices.Equal(a.levels, b.levels) && a.paragraph == b.paragraph && a.err == b.err
}

// answers: what each call on a text answers.
type answers struct {
	runes    []api.Rune
	clusters []int
	snapped  [8]int
	leveled  [4]leveled
	words    []int
	wrapped  [4][]int
}

func ask(text string) answers {
	a := answers{runes: caret.Decode(text), clusters: caret.Clusters(text)}
	for i, offset := range []int{math.MinInt, 1, len(text) / 2, math.MaxInt} {
		a.snapped[2*i] = caret.Snap(text, offset, false)
		a.snapped[2*i+1] = caret.Snap(text, offset, true)
	}
	for base := range a.leveled {
		l := &a.leveled[base]
		l.levels, l.paragraph, l.err = caret.Levels(text, base)
	}
	a.words = caret.Words(text)
	for i, room := range []int{math.MinInt, 0, 25, math.MaxInt} {
		a.wrapped[i] = caret.Wrap(text, tens(text), room)
	}
	return a
}

func (a answers) equal(b answers) bool {
	for base := range a.leveled {
		if !a.leveled[base].equal(b.leveled[base]) {
			return false
		}
	}
	for i := range a.wrapped {
		if !slices.Equal(a.wrapped[i], b.wrapped[i]) {
			return false
		}
	}
	return slices.Equal(a.words, b.words) && slices.Equal(a.runes, b.runes) && slices.Equal(a.clusters, b.clusters) && a.snapped == b.snapped
}

// spoil does to an answer what a caller may do to it.
func (a *answers) spoil() {
	for i := range a.runes {
		a.runes[i] = api.Rune{Rune: -1, From: -1, To: -1}
	}
	a.runes = append(a.runes, api.Rune{})
	a.clusters = spoilt(a.clusters)
	for base := range a.leveled {
		a.leveled[base].levels = spoilt(a.leveled[base].levels)
	}
	a.words = spoilt(a.words)
	for i := range a.wrapped {
		a.wrapped[i] = spoilt(a.wrapped[i])
	}
}

func spoilt(list []int) []int {
	for i := range list {
		list[i] = -1
	}
	return append(list, -1)
}

// Each single byte, each two bytes, and each three that begin as a long rune does.
func TestNoCallPanicsAtAnyBytes(t *testing.T) {
	try := func(text string) {
		defer func() {
			if p := recover(); p != nil {
				t.Errorf("P1: %+q: %v", text, p)
			}
		}()
		ask(text)
	}
	for a := range 256 {
		try(string([]byte{byte(a)}))
		for b := range 256 {
			try(string([]byte{byte(a), byte(b)}))
			try(string([]byte{0xF0, byte(a), byte(b)}))
		}
	}
}

func TestNoCallPanicsAtAnyNumber(t *testing.T) {
	for r := int64(math.MinInt32); r <= math.MaxInt32; r += 9973 {
		caret.ClassOf(rune(r))
		caret.KindOf(rune(r))
	}
	for bit := range 64 {
		for _, offset := range []int{1 << bit, -1 << bit, 1<<bit - 1, -1<<bit + 1} {
			if got := caret.Snap("e\u0301x", offset, true); got < 0 || got > 4 {
				t.Errorf("P1: Snap(.., %d, true) = %d", offset, got)
			}
			if _, _, err := caret.Levels("a", offset); err != api.OK && err != api.ErrBase {
				t.Errorf("P1: Levels(.., %d): %d", offset, err)
			}
		}
	}
}

// Whatever else was asked in between, and whatever the caller did to an answer.
func TestAnswersDependOnArgumentsAlone(t *testing.T) {
	var texts []string
	var first []answers
	keep := func(text string) {
		texts = append(texts, text)
		first = append(first, ask(text))
	}
	for text := range anyTexts(400) {
		keep(text)
	}
	for text := range anyTextsOf(runners, 40, 400) {
		keep(text)
	}
	for i := len(texts) - 1; i >= 0; i-- {
		answer := ask(texts[i])
		answer.spoil()
		if again := ask(strings.Clone(texts[i])); !again.equal(first[i]) {
			t.Errorf("P2: %+q: %v, then %v", texts[i], first[i], again)
		}
	}
}

// Growing one answer must not write into another one's memory.
func TestAnswersShareNoMemory(t *testing.T) {
	const text = "xe\u0301\r\n\u05D0"
	want := ask(text)
	one, two := ask(text), ask(text)
	one.spoil()
	if !two.equal(want) {
		t.Errorf("P2: %v became %v", want, two)
	}
}

func TestCallsAtTheSameTime(t *testing.T) {
	const text = "a\u0301\U0001F1E6\U0001F1E7\U0001F1E8\xFF(\u2067[\u05D0])\u2069{1}"
	want := ask(text)
	var wait sync.WaitGroup
	for range 8 {
		wait.Go(func() {
			for range 200 {
				if got := ask(text); !got.equal(want) {
					t.Errorf("P2: %v, want %v", got, want)
					return
				}
			}
		})
	}
	wait.Wait()
}

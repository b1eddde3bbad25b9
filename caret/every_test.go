package caret_test

import (
	"math"
	"slices"
	"strings"
	"sync"
	"testing"

	"caret/api"
	"caret/caret"
)

// answers: what each call on a text alone answers.
type answers struct {
	runes    []api.Rune
	clusters []int
	snapped  [8]int
}

func ask(text string) answers {
	a := answers{runes: caret.Decode(text), clusters: caret.Clusters(text)}
	for i, offset := range []int{math.MinInt, 1, len(text) / 2, math.MaxInt} {
		a.snapped[2*i] = caret.Snap(text, offset, false)
		a.snapped[2*i+1] = caret.Snap(text, offset, true)
	}
	return a
}

func (a answers) equal(b answers) bool {
	return slices.Equal(a.runes, b.runes) && slices.Equal(a.clusters, b.clusters) && a.snapped == b.snapped
}

// Each single byte, each two bytes, and each three that begin as a long rune does.
func TestNoCallPanicsAtAnyBytes(t *testing.T) {
	try := func(text string) {
		defer func() {
			if p := recover(); p != nil {
				t.Errorf("P1: %+q: %v", text, p)
			}
		}()
		ask(text)
	}
	for a := range 256 {
		try(string([]byte{byte(a)}))
		for b := range 256 {
			try(string([]byte{byte(a), byte(b)}))
			try(string([]byte{0xF0, byte(a), byte(b)}))
		}
	}
}

func TestNoCallPanicsAtAnyNumber(t *testing.T) {
	for r := int64(math.MinInt32); r <= math.MaxInt32; r += 9973 {
		caret.ClassOf(rune(r))
		caret.KindOf(rune(r))
	}
	for bit := range 64 {
		for _, offset := range []int{1 << bit, -1 << bit, 1<<bit - 1, -1<<bit + 1} {
			if got := caret.Snap("e\u0301x", offset, true); got < 0 || got > 4 {
				t.Errorf("P1: Snap(.., %d, true) = %d", offset, got)
			}
		}
	}
}

// Whatever else was asked in between, and whatever the caller did to an answer.
func TestAnswersDependOnArgumentsAlone(t *testing.T) {
	var texts []string
	var first []answers
	for text := range anyTexts(400) {
		texts = append(texts, text)
		first = append(first, ask(text))
	}
	for i := len(texts) - 1; i >= 0; i-- {
		spoilt := ask(texts[i])
		clear(spoilt.runes)
		clear(spoilt.clusters)
		if again := ask(strings.Clone(texts[i])); !again.equal(first[i]) {
			t.Errorf("P2: %+q: %v, then %v", texts[i], first[i], again)
		}
	}
}

// Growing one answer must not write into another one's memory.
func TestAnswersShareNoMemory(t *testing.T) {
	const text = "xe\u0301\r\n\u05D0"
	want := ask(text)
	one, two := ask(text), ask(text)
	for i := range one.runes {
		one.runes[i] = api.Rune{Rune: -1, From: -1, To: -1}
	}
	for i := range one.clusters {
		one.clusters[i] = -1
	}
	one.runes = append(one.runes, api.Rune{})
	one.clusters = append(one.clusters, -1)
	if !two.equal(want) {
		t.Errorf("P2: %v became %v", want, two)
	}
}

func TestCallsAtTheSameTime(t *testing.T) {
	const text = "a\u0301\U0001F1E6\U0001F1E7\U0001F1E8\xFF"
	want := ask(text)
	var wait sync.WaitGroup
	for range 8 {
		wait.Go(func() {
			for range 200 {
				if got := ask(text); !got.equal(want) {
					t.Errorf("P2: %v, want %v", got, want)
					return
				}
			}
		})
	}
	wait.Wait()
}

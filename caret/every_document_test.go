package caret_test

import (
	"slices"
	"strings"
	"sync"
	"testing"

	"caret/api"
	"caret/caret"
)

// turn does the ops to a document, and spoils each answer as a caller may; what it tells are copies made ahead of that.
func turn(d *caret.Document, ops []api.Op) []api.Page {
	var out []api.Page
	for _, o := range ops {
		page := d.Do(o)
		out = append(out, copyOfPage(page))
		spoilPage(&page)
	}
	return out
}

func copyOfPage(page api.Page) api.Page {
	page.Selected, page.Breaks = slices.Clone(page.Selected), slices.Clone(page.Breaks)
	return page
}

func spoilPage(page *api.Page) {
	spoilState(&page.State)
	page.Breaks = spoilt(page.Breaks)
	page.Text, page.Undos, page.Redos = "spoilt", -1, -1
}

// Each thing that a document knows, and some that it does not, with numbers of each size.
func TestNoDocumentPanics(t *testing.T) {
	known := bothTables(t)
	chance := dice(73)
	numbers := farNumbers()
	try := func(text string, base int, m api.Metric, room int, ops int) {
		defer func() {
			if p := recover(); p != nil {
				t.Errorf("P1: %+q, base %d, %v, room %d: %v", text, base, m, room, p)
			}
		}()
		d, err := caret.Open(text, base, m, room)
		if err != api.OK {
			return
		}
		for i, number := range numbers[:ops] {
			other := numbers[len(numbers)-1-i]
			for do := api.Left; do <= api.Redo; do++ {
				d.Do(api.Op{Do: do, Extend: chance.below(2) == 0, A: number, X: int64(other), Back: chance.below(2) == 0, Text: chance.text(pieces, 4)})
			}
			d.Do(api.Op{Do: number, A: other, X: int64(number), Text: text})
			d.Do(api.Op{Do: api.Insert, Text: text})
		}
	}
	for _, n := range numbers {
		try("ab \u05D0", n, metric, 20, 3)
		try("ab \u05D0", 0, metric, n, 20)
		try("ab \u4E00", 0, api.Metric{Narrow: n, Wide: 20}, -n, 20)
		try("ab \u4E00", 1, api.Metric{Narrow: 10, Wide: n}, n, 20)
	}
	for a := range 256 {
		for b := a % 7; b < 256; b += 7 {
			try(string([]byte{byte(a), byte(b)}), b%3, metric, a, 1)
		}
	}
	for range 20 {
		k := chance.anyDesk(known)
		try(chance.text(pieces, 30), k.base, k.m, k.room, len(numbers))
		try(chance.text(runners, 120), k.base, k.m, k.room, len(numbers))
	}
	for base := range 3 {
		try("", base, metric, 20, len(numbers))
		try(strings.Repeat("\xFF", 133), base, metric, 20, 10)
		try(strings.Repeat("a", 400), base, metric, 20, 10)
	}
}

// Whatever the caller did to an answer, and whatever document it was told of.
func TestWhatADocumentTellsIsTheCallers(t *testing.T) {
	known := bothTables(t)
	chance := dice(79)
	for range 100 {
		text := chance.text(runners, 40)
		k := chance.anyDesk(known)
		ops := chance.anyDeskOps(text, runners, 30)
		var want, kept []api.Page
		d := k.open(t, text)
		for _, o := range ops {
			page := d.Do(o)
			want, kept = append(want, page), append(kept, copyOfPage(page))
		}
		if !slices.EqualFunc(want, kept, equalPages) {
			t.Fatalf("P2: %+q: pages became others by what was done next: %+v, were %+v", text, want, kept)
		}
		for range 2 {
			if got := turn(k.open(t, strings.Clone(text)), ops); !slices.EqualFunc(got, want, equalPages) {
				t.Fatalf("P2: %+q, base %d, room %d: of %+v: %+v, want %+v", text, k.base, k.room, ops, got, want)
			}
		}
	}
}

// Writing into one page, and growing its lists, must leave another one.
func TestPagesShareNoMemory(t *testing.T) {
	k := deskWith(t, 40)
	d := k.selectIn(t, goalText, at(1), back(8))
	one, two := d.Do(op(api.Nothing)), d.Do(op(api.Nothing))
	want := copyOfPage(one)
	spoilPage(&one)
	if !equalPages(two, want) {
		t.Errorf("P2: %+v, was %+v", two, want)
	}
	k.checkPaging(t, "told at last", d, []paging{{op(api.Nothing), goalText, at(1), back(8), false, 0, 0}})
}

func TestDocumentsLeaveOneAnotherAlone(t *testing.T) {
	known := bothTables(t)
	chance := dice(83)
	for range 60 {
		text, other := chance.text(runners, 30), chance.text(pieces, 30)
		k, j := chance.anyDesk(known), chance.anyDesk(known)
		ops, others := chance.anyDeskOps(text, runners, 30), chance.anyDeskOps(other, pieces, 30)
		want, wanted := turn(k.open(t, text), ops), turn(j.open(t, other), others)
		one, two := k.open(t, text), j.open(t, other)
		for i := range ops {
			if got := turn(one, ops[i:i+1])[0]; !equalPages(got, want[i]) {
				t.Fatalf("P2: one of two: %+v, want %+v", got, want[i])
			}
			if got := turn(two, others[i:i+1])[0]; !equalPages(got, wanted[i]) {
				t.Fatalf("P2: the other one: %+v, want %+v", got, wanted[i])
			}
		}
	}
}

func TestDocumentsAtTheSameTime(t *testing.T) {
	known := bothTables(t)
	chance := dice(89)
	const text = "ab \u05D0\u05D1 [\u2067c\u2069] 12 e\u0301\n"
	k := desk{2, metric, 40, known}
	ops := chance.anyDeskOps(text, runners, 80)
	want := turn(k.open(t, text), ops)
	var wait sync.WaitGroup
	for range 8 {
		wait.Go(func() {
			for range 20 {
				d, _ := caret.Open(text, k.base, k.m, k.room)
				if got := turn(d, ops); !slices.EqualFunc(got, want, equalPages) {
					t.Errorf("P2: %+v, want %+v", got, want)
					return
				}
			}
		})
	}
	wait.Wait()
}

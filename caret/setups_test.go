package caret_test

import (
	"math"
	"slices"
	"strings"
	"testing"

	"caret/api"
	"caret/caret"
)

// tens: each rune of a text ten wide.
func tens(text string) []int { return slices.Repeat([]int{10}, len([]rune(text))) }

func broken(text string, base int, breaks ...int) api.Setup {
	return api.Setup{Text: text, Base: base, Widths: tens(text), Breaks: breaks}
}

// set reads words as spell does; a line is broken at each |.
func set(words string, base int) api.Setup {
	s := api.Setup{Base: base}
	for _, part := range spelled(words) {
		if part == "|" {
			s.Breaks = append(s.Breaks, len(s.Text))
			continue
		}
		s.Text += part
	}
	s.Widths = tens(s.Text)
	return s
}

func lay(t *testing.T, s api.Setup) *caret.Layout {
	t.Helper()
	l, err := caret.New(s)
	if err != api.OK || l == nil {
		t.Fatalf("P9: New(%+q, base %d, breaks %v) = %v, %d", s.Text, s.Base, s.Breaks, l, err)
	}
	return l
}

func checkNew(t *testing.T, what string, s api.Setup, want api.Errno) {
	t.Helper()
	l, err := caret.New(s)
	if err != want {
		t.Errorf("P9: %s: New(%d bytes, %+.20q.., base %d, breaks %v): %d, want %d", what, len(s.Text), s.Text, s.Base, s.Breaks, err, want)
	}
	if (l == nil) != (err != api.OK) {
		t.Errorf("P1: %s: New answers %v beside %d", what, l, err)
	}
}

func TestNewRefusesLongTexts(t *testing.T) {
	letters := strings.Repeat("\u05D0", 200)
	for _, c := range []struct {
		text string
		want api.Errno
	}{
		{"", api.OK}, {"a", api.OK}, {strings.Repeat("a", 399), api.OK}, {strings.Repeat("a", 400), api.OK}, {strings.Repeat("a", 401), api.ErrLong},
		{letters, api.OK}, {letters + "a", api.ErrLong}, {letters + "\xFF", api.ErrLong}, {letters[:398] + "\xFF", api.OK}, {"a" + letters, api.ErrLong},
		{strings.Repeat("a", 1<<20), api.ErrLong}, {strings.Repeat("\xFF", 400), api.OK}, {strings.Repeat("\xFF", 401), api.ErrLong},
	} {
		checkNew(t, "long", broken(c.text, 0), c.want)
	}
}

func TestNewRefusesBases(t *testing.T) {
	for _, text := range []string{"", "a", "\u05D0"} {
		for base := -3; base <= 5; base++ {
			want := api.ErrBase
			if base >= 0 && base <= 2 {
				want = api.OK
			}
			checkNew(t, "base", broken(text, base), want)
		}
		for _, base := range []int{math.MinInt, math.MaxInt, 1 << 32, 1<<32 + 1, 256} {
			checkNew(t, "base", broken(text, base), api.ErrBase)
		}
	}
}

func TestNewRefusesWidths(t *testing.T) {
	for _, c := range []struct {
		text   string
		widths []int
		want   api.Errno
	}{
		{"", nil, api.OK}, {"", []int{}, api.OK}, {"", []int{0}, api.ErrWidths},
		{"a", nil, api.ErrWidths}, {"a", []int{1}, api.OK}, {"a", []int{1, 1}, api.ErrWidths},
		{"abc", []int{1, 2}, api.ErrWidths}, {"abc", []int{1, 2, 3}, api.OK}, {"abc", []int{1, 2, 3, 4}, api.ErrWidths},
		// By runes: neither by bytes nor by clusters.
		{"\u05D0", []int{1}, api.OK}, {"\u05D0", []int{1, 1}, api.ErrWidths}, {"e\u0301", []int{1}, api.ErrWidths}, {"e\u0301", []int{1, 0}, api.OK}, {"e\u0301", []int{1, 0, 0}, api.ErrWidths},
		{"\xE2\x80", []int{1}, api.ErrWidths}, {"\xE2\x80", []int{1, 1}, api.OK}, {"\r\n", []int{1}, api.ErrWidths}, {"\r\n", []int{1, 1}, api.OK},
		{"a", []int{0}, api.OK}, {"a", []int{-1}, api.ErrWidths}, {"a", []int{api.MaxWidth}, api.OK}, {"a", []int{1 << 30}, api.OK}, {"a", []int{1<<30 + 1}, api.ErrWidths},
		{"a", []int{math.MinInt}, api.ErrWidths}, {"a", []int{math.MaxInt}, api.ErrWidths}, {"a", []int{1 << 32}, api.ErrWidths}, {"a", []int{-1 << 30}, api.ErrWidths},
		{"abc", []int{-1, 1, 1}, api.ErrWidths}, {"abc", []int{1, -1, 1}, api.ErrWidths}, {"abc", []int{1, 1, -1}, api.ErrWidths},
		{"abc", []int{1<<30 + 1, 1, 1}, api.ErrWidths}, {"abc", []int{1, 1, 1<<30 + 1}, api.ErrWidths}, {"abc", []int{1 << 30, 0, 1 << 30}, api.OK},
		{"e\u0301", []int{1, -1}, api.ErrWidths}, {"e\u0301", []int{1 << 30, 1 << 30}, api.OK},
	} {
		checkNew(t, "widths", api.Setup{Text: c.text, Widths: c.widths}, c.want)
	}
	checkNew(t, "many widths", api.Setup{Text: "a", Widths: make([]int, 1<<20)}, api.ErrWidths)
}

func TestNewRefusesBreaks(t *testing.T) {
	for _, c := range []struct {
		text   string
		breaks []int
		want   api.Errno
	}{
		{"abc", nil, api.OK}, {"abc", []int{}, api.OK}, {"abc", []int{1}, api.OK}, {"abc", []int{2}, api.OK}, {"abc", []int{1, 2}, api.OK},
		{"abc", []int{0}, api.ErrBreaks}, {"abc", []int{3}, api.ErrBreaks}, {"abc", []int{-1}, api.ErrBreaks}, {"abc", []int{4}, api.ErrBreaks},
		{"abc", []int{0, 1}, api.ErrBreaks}, {"abc", []int{1, 3}, api.ErrBreaks}, {"abc", []int{1, 2, 3}, api.ErrBreaks}, {"abc", []int{-1, 1}, api.ErrBreaks}, {"abc", []int{1, 4}, api.ErrBreaks},
		{"abc", []int{1, 1}, api.ErrBreaks}, {"abc", []int{2, 1}, api.ErrBreaks}, {"abcd", []int{1, 3, 2}, api.ErrBreaks}, {"abcd", []int{1, 2, 2, 3}, api.ErrBreaks}, {"abcd", []int{3, 2, 1}, api.ErrBreaks},
		{"abc", []int{math.MinInt}, api.ErrBreaks}, {"abc", []int{math.MaxInt}, api.ErrBreaks}, {"abc", []int{1 << 32}, api.ErrBreaks}, {"abc", []int{1<<32 + 1}, api.ErrBreaks},
		{"", nil, api.OK}, {"", []int{0}, api.ErrBreaks}, {"", []int{1}, api.ErrBreaks}, {"", []int{-1}, api.ErrBreaks},
		{"a", []int{0}, api.ErrBreaks}, {"a", []int{1}, api.ErrBreaks},
		{"xe\u0301y", []int{1}, api.OK}, {"xe\u0301y", []int{2}, api.ErrBreaks}, {"xe\u0301y", []int{3}, api.ErrBreaks}, {"xe\u0301y", []int{4}, api.OK}, {"xe\u0301y", []int{1, 4}, api.OK}, {"xe\u0301y", []int{1, 2, 4}, api.ErrBreaks},
		{"\u05D0\u05D1", []int{1}, api.ErrBreaks}, {"\u05D0\u05D1", []int{2}, api.OK}, {"\u05D0\u05D1", []int{3}, api.ErrBreaks},
		{"e\u0301", []int{1}, api.ErrBreaks}, {"\xE2\x80", []int{1}, api.OK},
		{"a\r\n", []int{1}, api.OK}, {"a\r\n", []int{2}, api.ErrBreaks}, {"a\n", []int{1}, api.OK},
		{"\U0001F1E6\U0001F1E7\U0001F1E8", []int{4}, api.ErrBreaks}, {"\U0001F1E6\U0001F1E7\U0001F1E8", []int{8}, api.OK},
	} {
		for base := range 3 {
			checkNew(t, "breaks", broken(c.text, base, c.breaks...), c.want)
		}
	}
}

func TestNewRefusesParagraphsThatEndEarly(t *testing.T) {
	for _, end := range []string{"\n", "\r", "\x1C", "\x1D", "\x1E", "\u0085", "\u2029"} {
		for _, c := range []struct {
			text   string
			breaks []int
			want   api.Errno
		}{
			{end, nil, api.OK}, {"a" + end, nil, api.OK}, {"\u05D0\u05D1" + end, nil, api.OK}, {"a" + end, []int{1}, api.OK},
			{end + "a", nil, api.ErrBlock}, {"a" + end + "b", nil, api.ErrBlock}, {"a" + end + "b", []int{1}, api.ErrBlock}, {"a" + end + "b", []int{1 + len(end)}, api.ErrBlock},
			{end + "\u0301", nil, api.ErrBlock}, {end + "\u200B", nil, api.ErrBlock}, {end + " ", nil, api.ErrBlock}, {"\u2067" + end + "\u2069", nil, api.ErrBlock},
			{end + "\x1C", nil, api.ErrBlock}, {"a" + end + "\x1C", nil, api.ErrBlock}, {end + "a" + end, nil, api.ErrBlock}, {end + "\r\n", nil, api.ErrBlock}, {"\r\n" + end, nil, api.ErrBlock},
		} {
			checkNew(t, "paragraphs", broken(c.text, 0, c.breaks...), c.want)
		}
	}
	for text, want := range map[string]api.Errno{
		"\r\n": api.OK, "ab\r\n": api.OK, "\n\r": api.ErrBlock, "a\n\r": api.ErrBlock, "\n\n": api.ErrBlock, "a\r\nb": api.ErrBlock, "\r\n\u0301": api.ErrBlock,
		// S and WS end no paragraph.
		"a\tb": api.OK, "a\vb": api.OK, "a\fb": api.OK, "a\u2028b": api.OK, "a\x1Fb": api.OK, "a\u0084b": api.OK, "a\u0086b": api.OK,
	} {
		checkNew(t, "paragraphs", broken(text, 0), want)
	}
}

// Each choice of the five faults: the answer is the one named first.
func TestNewTellsTheFirstFault(t *testing.T) {
	for _, wrongBreak := range []int{-1, 0, 2, math.MaxInt} {
		for choice := range 1 << 5 {
			has := func(err api.Errno) bool { return choice>>(err-1)&1 == 1 }
			text := "ab\u05D0\u05D1"
			if has(api.ErrBlock) {
				text = "a\n\u05D0\u05D1"
			}
			if has(api.ErrLong) {
				text += strings.Repeat("x", 400)
			}
			s := broken(text, 2, 2)
			if has(api.ErrBase) {
				s.Base = 3
			}
			if has(api.ErrWidths) {
				s.Widths[1] = -1
			}
			if has(api.ErrBreaks) {
				s.Breaks = append(s.Breaks, wrongBreak)
			}
			want := api.OK
			for err := api.ErrBlock; err > api.OK; err-- {
				if has(err) {
					want = err
				}
			}
			checkNew(t, "several faults", s, want)
		}
	}
}

// faultByRules: P9, as its sentences go.
func faultByRules(s api.Setup, known tables) api.Errno {
	bounds := boundsByRules(s.Text, known.kinds)
	runes := []rune(s.Text)
	if len(s.Text) > 400 {
		return api.ErrLong
	}
	if !among(s.Base, 0, 1, 2) {
		return api.ErrBase
	}
	if len(s.Widths) != len(runes) {
		return api.ErrWidths
	}
	for _, width := range s.Widths {
		if width < 0 || width > 1<<30 {
			return api.ErrWidths
		}
	}
	for i, b := range s.Breaks {
		if i > 0 && b <= s.Breaks[i-1] || !slices.Contains(bounds, b) || b <= 0 || b >= len(s.Text) {
			return api.ErrBreaks
		}
	}
	for from, r := range s.Text {
		if known.classes[r] == api.B && from < bounds[len(bounds)-2] {
			return api.ErrBlock
		}
	}
	return api.OK
}

// anySetup: some setup; careful: one that fits, but for what may be wrong with the text.
func (d *dice) anySetup(parts []string, most int, careful bool, known tables) api.Setup {
	s := api.Setup{Text: d.text(parts, most), Base: d.below(3)}
	widths := []int{0, 0, 1, 2, 3, 10, 1 << 30}
	for range []rune(s.Text) {
		s.Widths = append(s.Widths, widths[d.below(len(widths))])
	}
	often := 1 + d.below(8)
	for _, b := range boundsByRules(s.Text, known.kinds) {
		if b > 0 && b < len(s.Text) && d.below(often) == 0 {
			s.Breaks = append(s.Breaks, b)
		}
	}
	if !careful {
		d.spoil(&s)
	}
	return s
}

// spoil: up to three faults.
func (d *dice) spoil(s *api.Setup) {
	numbers := []int{-1, 0, 1, 2, 3, len(s.Text) - 1, len(s.Text), 1 << 30, 1<<30 + 1, math.MaxInt, math.MinInt}
	number := func() int { return numbers[d.below(len(numbers))] }
	for range d.below(4) {
		switch d.below(8) {
		case 0:
			s.Base = number()
		case 1:
			s.Widths = append(s.Widths, number())
		case 2:
			s.Widths = s.Widths[:d.below(len(s.Widths)+1)]
		case 3:
			if len(s.Widths) > 0 {
				s.Widths[d.below(len(s.Widths))] = number()
			}
		case 4:
			s.Breaks = append(s.Breaks, number())
		case 5:
			s.Breaks = slices.Insert(s.Breaks, d.below(len(s.Breaks)+1), number())
		case 6:
			s.Breaks = append(s.Breaks, s.Breaks...)
		}
	}
}

func TestNewOfManySetups(t *testing.T) {
	known := bothTables(t)
	d := dice(7)
	var seen [6]int
	for range 20000 {
		s := d.anySetup(pieces, 8, false, known)
		want := faultByRules(s, known)
		checkNew(t, "any setup", s, want)
		seen[want]++
	}
	for err, count := range seen {
		if count < 100 && api.Errno(err) != api.ErrLong {
			t.Errorf("only %d setups with error %d", count, err)
		}
	}
}

package setups

import (
	"errors"
	"strings"
	"testing"

	"caret/api"
)

// outer wraps a fault once more, as a caller may.
type outer struct{ inner error }

func (o outer) Error() string { return "outer: " + o.inner.Error() }
func (o outer) Unwrap() error { return o.inner }

func TestAFaultHasANumberAndACause(t *testing.T) {
	for _, c := range []struct {
		what   string
		setup  api.Setup
		number api.Errno
		cause  error
	}{
		{"long", api.Setup{Text: strings.Repeat("a", 401)}, api.ErrLong, nil},
		{"base", api.Setup{Base: 3}, api.ErrBase, nil},
		{"few widths", api.Setup{Text: "ab", Widths: []int{1}}, api.ErrWidths, errCount},
		{"a width below 0", api.Setup{Text: "a", Widths: []int{-1}}, api.ErrWidths, errRange},
		{"a break at the end", api.Setup{Text: "a", Widths: []int{1}, Breaks: []int{1}}, api.ErrBreaks, errPlace},
		{"a break at 0", api.Setup{Text: "ab", Widths: []int{1, 1}, Breaks: []int{0}}, api.ErrBreaks, errPlace},
		{"a break within a cluster", api.Setup{Text: "e\u0301", Widths: []int{1, 0}, Breaks: []int{1}}, api.ErrBreaks, errPlace},
		{"breaks that fall", api.Setup{Text: "abc", Widths: []int{1, 1, 1}, Breaks: []int{2, 1}}, api.ErrBreaks, errRising},
		{"a break twice", api.Setup{Text: "abc", Widths: []int{1, 1, 1}, Breaks: []int{1, 1}}, api.ErrBreaks, errRising},
		{"two paragraphs", api.Setup{Text: "\na", Widths: []int{1, 1}}, api.ErrBlock, nil},
	} {
		err := Check(c.setup)
		var fault *Fault
		if !errors.As(err, &fault) {
			t.Errorf("P9: %s: %v is no Fault", c.what, err)
			continue
		}
		if fault.Number != c.number || Number(err) != c.number || Number(outer{err}) != c.number {
			t.Errorf("P9: %s: %v has number %d, want %d", c.what, err, Number(err), c.number)
		}
		if errors.Unwrap(err) != c.cause || c.cause != nil && !errors.Is(outer{err}, c.cause) {
			t.Errorf("P9: %s: cause %v, want %v", c.what, errors.Unwrap(err), c.cause)
		}
		want := meaning(c.number)
		if c.cause != nil {
			want += ": " + c.cause.Error()
		}
		if err.Error() != want {
			t.Errorf("P9: %s: %q, want %q", c.what, err.Error(), want)
		}
	}
}

func TestNothingWrong(t *testing.T) {
	err := Check(api.Setup{Text: "ab\n", Widths: []int{0, 1, api.MaxWidth}, Breaks: []int{1, 2}})
	if err != nil || Number(err) != api.OK {
		t.Errorf("P9: %v, %d", err, Number(err))
	}
}

func TestWidthsOfAMetric(t *testing.T) {
	for _, m := range []api.Metric{{Narrow: -1}, {Wide: -1}, {Narrow: api.MaxWidth + 1}, {Wide: api.MaxWidth + 1}} {
		if err := CheckMetric(m); Number(err) != api.ErrWidths || !errors.Is(err, errRange) {
			t.Errorf("P27: %v: %v", m, err)
		}
	}
	for _, m := range []api.Metric{{}, {Narrow: api.MaxWidth, Wide: api.MaxWidth}, {Narrow: 1}} {
		if err := CheckMetric(m); err != nil {
			t.Errorf("P27: %v: %v", m, err)
		}
	}
}

func TestEachNumberHasAMeaningOfItsOwn(t *testing.T) {
	seen := map[string]api.Errno{}
	for number := api.OK; number <= api.ErrBlock; number++ {
		if other, found := seen[meaning(number)]; found {
			t.Errorf("%d and %d both mean %q", number, other, meaning(number))
		}
		seen[meaning(number)] = number
	}
}

package setups

import (
	"errors"
	"slices"
	"unicode/utf8"

	"caret/api"
	"caret/clusters"
	"caret/runes"
)

var (
	errCount  = errors.New("not one for each rune")
	errRange  = errors.New("one is too small or too great")
	errPlace  = errors.New("one is not between two clusters")
	errRising = errors.New("one is not above the one ahead of it")
)

// Check tells what is wrong with a setup, as a Fault; nil, if nothing is.
func Check(s api.Setup) error {
	if err := CheckText(s.Text, s.Base); err != nil {
		return err
	}
	if err := checkWidths(s.Text, s.Widths); err != nil {
		return &Fault{Number: api.ErrWidths, Cause: err}
	}
	bounds := clusters.Bounds(s.Text)
	if err := checkBreaks(bounds, s.Breaks); err != nil {
		return &Fault{Number: api.ErrBreaks, Cause: err}
	}
	if endsEarly(s.Text, bounds) {
		return &Fault{Number: api.ErrBlock}
	}
	return nil
}

// CheckText tells what is wrong with a text and its base direction alone.
func CheckText(text string, base int) error {
	switch {
	case len(text) > api.MaxText:
		return &Fault{Number: api.ErrLong}
	case base != api.FromLeft && base != api.FromRight && base != api.ByText:
		return &Fault{Number: api.ErrBase}
	}
	return nil
}

func checkWidths(text string, widths []int) error {
	if len(widths) != utf8.RuneCountInString(text) {
		return errCount
	}
	if slices.ContainsFunc(widths, outOfRange) {
		return errRange
	}
	return nil
}

// CheckMetric tells what is wrong with how wide runes are.
func CheckMetric(m api.Metric) error {
	if outOfRange(m.Narrow) || outOfRange(m.Wide) {
		return &Fault{Number: api.ErrWidths, Cause: errRange}
	}
	return nil
}

func outOfRange(width int) bool { return width < 0 || width > api.MaxWidth }

func checkBreaks(bounds, breaks []int) error {
	ahead, end := 0, bounds[len(bounds)-1]
	for _, at := range breaks {
		_, found := slices.BinarySearch(bounds, at)
		switch {
		case !found || at == 0 || at == end:
			return errPlace
		case at <= ahead:
			return errRising
		}
		ahead = at
	}
	return nil
}

// endsEarly tells whether a paragraph ends in another cluster than the last one.
func endsEarly(text string, bounds []int) bool {
	last := bounds[max(len(bounds)-2, 0)]
	for _, r := range text[:last] {
		if runes.ClassOf(r) == api.B {
			return true
		}
	}
	return false
}

package runes

import "testing"

// The search by halves finds a row only if the tables are rising and no rows overlap.
func TestTablesRise(t *testing.T) {
	last := rune(-1)
	check := func(table string, first, end rune) {
		if first <= last || end < first {
			t.Errorf("%s: the row %X-%X does not stand behind %X", table, first, end, last)
		}
		last = end
	}
	for _, row := range lowClasses {
		check("lowClasses", row.first, row.last)
	}
	if last >= firstHigh {
		t.Errorf("lowClasses: the last row ends at %X", last)
	}
	last = firstHigh - 1
	for _, row := range highClasses {
		check("highClasses", row.first, row.last)
	}
	last = -1
	for _, row := range kinds {
		check("kinds", row.first, row.last)
	}
}

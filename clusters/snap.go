package clusters

import "slices"

// Snap goes to the nearest boundary that is not above the offset, or (up) not below it; offsets outside of the text are taken for its ends.
func Snap(text string, offset int, up bool) int { return SnapAmong(Bounds(text), offset, up) }

// SnapAmong is Snap, where the boundaries of the text are known already.
func SnapAmong(bounds []int, offset int, up bool) int {
	offset = min(max(offset, 0), bounds[len(bounds)-1])
	at, found := slices.BinarySearch(bounds, offset)
	if found || up {
		return bounds[at]
	}
	// 0 is a boundary, and would have been found: so there is one below.
	return bounds[at-1]
}

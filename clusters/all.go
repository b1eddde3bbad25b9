package clusters

import "iter"

// All goes through the clusters of a text: where each begins, and what stands there.
func All(text string) iter.Seq2[int, string] {
	return func(yield func(int, string) bool) {
		bounds := Bounds(text)
		for i, to := range bounds[1:] {
			if !yield(bounds[i], text[bounds[i]:to]) {
				return
			}
		}
	}
}

package layouts

import (
	"caret/api"
	"caret/clusters"
)

// part is a part of a line, from one gap to another.
type part struct{ from, to int }

// parts tells where clusters that are asked for stand together, each part as great as can be.
func parts(order []int, asked func(cluster int) bool) []part {
	var out []part
	from := 0
	for gap := range len(order) + 1 {
		if gap < len(order) && asked(order[gap]) {
			continue
		}
		if from < gap {
			out = append(out, part{from, gap})
		}
		from = gap + 1
	}
	return out
}

// Select tells what is selected between two bytes.
func (l *Layout) Select(a, b int) []api.Span {
	from := l.at(clusters.SnapAmong(l.bounds, min(a, b), false))
	to := l.at(clusters.SnapAmong(l.bounds, max(a, b), true))
	selected := func(cluster int) bool { return from <= cluster && cluster < to }
	var out []api.Span
	for i, line := range l.lines {
		out = append(out, spans(i, line, parts(line.Order, selected))...)
	}
	return out
}

func spans(number int, line api.Line, selected []part) []api.Span {
	var out []api.Span
	for _, p := range selected {
		out = append(out, api.Span{Line: number, From: p.from, To: p.to, Left: line.X[p.from], Right: line.X[p.to]})
	}
	return out
}

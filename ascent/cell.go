package ascent

import (
	"slices"

	"ullage/api"
	"ullage/span"
)

// cell is ranges of the controls of all parts of a task.
type cell []api.Knob

// Arcs returns the arcs of a cell.
func Arcs(t api.Ascent, c []api.Knob) ([]api.Arc, api.Errno) {
	if CheckTask(t) != api.OK || !isCell(t, c) {
		return nil, api.ErrArg
	}
	return arcs(t, c)
}

// Cost returns the cost of a cell.
func Cost(t api.Ascent, c []api.Knob) (api.Span, api.Errno) {
	if CheckTask(t) != api.OK || !isCell(t, c) {
		return api.Span{}, api.ErrArg
	}
	return cost(t, c)
}

// isCell reports whether c is a cell of a task.
func isCell(t api.Ascent, c cell) bool {
	if len(c) != len(t.Parts) {
		return false
	}
	for i, p := range t.Parts {
		if !span.Within(c[i].Pitch, p.Pitch) || !span.Within(c[i].Level, p.Level) {
			return false
		}
	}
	return true
}

// whole returns the cell of all ranges.
func whole(t api.Ascent) cell {
	var c cell
	for _, p := range t.Parts {
		c = append(c, api.Knob{Pitch: p.Pitch, Level: p.Level})
	}
	return c
}

// formula keeps the first error of an operation. What is evaluated behind that means nothing.
type formula struct{ e api.Errno }

// keep returns the result of an operation, and keeps its error if it is the first one.
func (f *formula) keep(a api.Span, e api.Errno) api.Span {
	if f.e == api.OK {
		f.e = e
	}
	return a
}

// arcs returns the arcs of a cell.
func arcs(t api.Ascent, c cell) ([]api.Arc, api.Errno) {
	var f formula
	var l []api.Arc
	for i, p := range t.Parts {
		l = append(l, f.controlled(t, p.Arc, c[i]))
	}
	if f.e != api.OK {
		return nil, f.e
	}
	return l, api.OK
}

// controlled returns an arc of a task with its controls in ranges.
func (f *formula) controlled(t api.Ascent, a api.Arc, k api.Knob) api.Arc {
	a.Drag = slices.Clone(a.Drag)
	a.Thrust = f.keep(span.Mul(a.Thrust, k.Level))
	a.Flow = f.flow(a, k)
	c, s, e := span.Turn(k.Pitch)
	f.keep(c, e)
	for i := range a.Dir {
		sum := f.keep(span.Add(f.keep(span.Mul(c, t.East[i])), f.keep(span.Mul(s, t.Up[i]))))
		a.Dir[i] = f.keep(span.Meet(sum, unit()))
	}
	return a
}

// flow returns the flow of an arc with its level in a range.
func (f *formula) flow(a api.Arc, k api.Knob) api.Span {
	return f.keep(span.Mul(a.Flow, k.Level))
}

// cost returns the cost of a cell.
func cost(t api.Ascent, c cell) (api.Span, api.Errno) {
	var f formula
	var burnt []api.Span
	for i, p := range t.Parts {
		time := api.Span{Lo: p.Arc.Time, Hi: p.Arc.Time}
		burnt = append(burnt, f.keep(span.Mul(f.flow(p.Arc, c[i]), time)))
	}
	sum := f.keep(span.Sum(burnt))
	if f.e != api.OK {
		return api.Span{}, f.e
	}
	return sum, api.OK
}

// middle returns the climb in the middle of all ranges.
func (c cell) middle() cell {
	var m cell
	for _, k := range c {
		m = append(m, api.Knob{Pitch: middle(k.Pitch), Level: middle(k.Level)})
	}
	return m
}

// middle returns the point in the middle of a span.
func middle(a api.Span) api.Span {
	n, _ := span.Mid(a)
	return api.Span{Lo: n, Hi: n}
}

// halves returns the parts of a cell with the lower half and with the upper half of its widest span, if that can be split.
func (c cell) halves() (low, high cell, split bool) {
	low, high = slices.Clone(c), slices.Clone(c)
	widest, most := 0, api.Num(0)
	for i := range 2 * len(c) {
		if n, _ := span.Wide(*c.control(i)); n > most {
			widest, most = i, n
		}
	}
	if most < 2 {
		return nil, nil, false
	}
	*low.control(widest), *high.control(widest), _ = span.Split(*c.control(widest))
	return low, high, true
}

// control returns the range of one of all controls: part by part, the pitch first.
func (c cell) control(i int) *api.Span {
	if i%2 == 0 {
		return &c[i/2].Pitch
	}
	return &c[i/2].Level
}

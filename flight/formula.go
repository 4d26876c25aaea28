package flight

import (
	"ullage/api"
	"ullage/span"
)

// formula evaluates formulas with the operations of package span, and keeps the first error of one. What is evaluated behind that means nothing.
type formula struct{ e api.Errno }

// keep returns the result of an operation, and keeps its error if it is the first one.
func (f *formula) keep(a api.Span, e api.Errno) api.Span {
	if f.e == api.OK {
		f.e = e
	}
	return a
}

func (f *formula) add(a, b api.Span) api.Span {
	return f.keep(span.Add(a, b))
}

func (f *formula) sub(a, b api.Span) api.Span {
	return f.keep(span.Sub(a, b))
}

func (f *formula) mul(a, b api.Span) api.Span {
	return f.keep(span.Mul(a, b))
}

func (f *formula) div(a, b api.Span) api.Span {
	return f.keep(span.Div(a, b))
}

func (f *formula) scale(a api.Span, n int) api.Span {
	return f.keep(span.Scale(a, n))
}

func (f *formula) square(a api.Span) api.Span {
	return f.keep(span.Square(a))
}

func (f *formula) norm(b api.Box) api.Span {
	return f.keep(span.Norm(b[:]))
}

func (f *formula) dot(a, b api.Box) api.Span {
	return f.keep(span.Dot(a[:], b[:]))
}

func (f *formula) look(table []api.Point, x api.Span) api.Span {
	return f.keep(span.Look(table, x))
}

// above0 returns a span that must have only numbers above 0.
func (f *formula) above0(a api.Span) api.Span {
	if a.Lo <= 0 {
		return f.keep(api.Span{}, api.ErrRange)
	}
	return a
}

// result returns what has been evaluated, or the first error.
func (f *formula) result(a api.Span) (api.Span, api.Errno) {
	if f.e != api.OK {
		return api.Span{}, f.e
	}
	return a, api.OK
}

package nav

import (
	"ullage/api"
	"ullage/span"
)

// others has, for each of x, y and z, the two others.
var others = [3][2]int{{1, 2}, {0, 2}, {0, 1}}

// upToError evaluates formulas, and returns the error that stopped this, if one did.
func upToError(evaluate func()) (e api.Errno) {
	defer func() {
		if stop, ok := recover().(api.Errno); ok {
			e = stop
		}
	}()
	evaluate()
	return api.OK
}

// must returns the result of an operation. An error stops all up to upToError.
func must(a api.Span, e api.Errno) api.Span {
	if e != api.OK {
		panic(e)
	}
	return a
}

// offset returns the way to a place from another one.
func offset(place, from api.Box) api.Box {
	var d api.Box
	for i := range d {
		d[i] = must(span.Sub(place[i], from[i]))
	}
	return d
}

func norm(b api.Box) api.Span {
	return must(span.Norm(b[:]))
}

func dot(a, b api.Box) api.Span {
	return must(span.Dot(a[:], b[:]))
}

package vehicle

import "ullage/api"

// Parse reads a vehicle.
func Parse(s string) (v api.Vehicle, at int, e api.Errno) {
	if len(s) > api.MaxText {
		return api.Vehicle{}, 0, api.ErrLong
	}
	p := parser{
		reader: reader{scanner: scanner{text: s}, lets: map[string]api.Quantity{}},
		given:  names{}, stages: names{}, engines: names{}, had: map[string]bool{},
	}
	at, e = upToFault(func() { v = p.whole() })
	return v, at, e
}

// parser reads a vehicle. It knows the names of the lets, stages and engines that there are, and which of the parts there were of which there is one.
type parser struct {
	reader
	given, stages, engines names
	had                    map[string]bool
	vehicle                api.Vehicle
}

// field is a word of a block, and what reads the value behind it, up to its semicolon.
type field struct {
	word string
	read func()
}

// boundsOf, lowerOf and countOf are values of fields, and where they are to be put.
type (
	boundsOf struct {
		p  *parser
		is measure
		to *api.Span
	}
	lowerOf struct {
		p  *parser
		is measure
		to *api.Num
	}
	countOf struct {
		p  *parser
		to *int
	}
)

func (f boundsOf) read() { *f.to = f.p.bounds(f.is) }
func (f lowerOf) read()  { *f.to = f.p.lower(f.is, ";") }
func (f countOf) read()  { *f.to = f.p.count() }

// whole reads the text.
func (p *parser) whole() api.Vehicle {
	p.advance()
	p.pass("vehicle")
	p.seeName()
	p.vehicle.Name = p.now.text
	p.advance()
	p.pass(";")
	for p.now.kind != kindEnd {
		p.part()
	}
	if !p.had["drag"] || !p.had["limits"] || !p.had["payload"] {
		p.refuse(api.ErrState)
	}
	_, _, e := Check(p.vehicle)
	p.refuse(e)
	return p.vehicle
}

func (p *parser) part() {
	switch p.now.text {
	case "let":
		p.let()
	case "stage":
		p.stage()
	case "engine":
		p.engine()
	case "drag":
		p.once()
		p.drag()
	case "limits":
		p.once()
		p.block([]field{
			{"axial", lowerOf{p, ofAcceleration, &p.vehicle.Axial}.read},
			{"bending", lowerOf{p, ofPressure, &p.vehicle.Bending}.read},
		})
	case "payload":
		p.once()
		p.pass("=")
		p.vehicle.Payload = p.bounds(ofMass)
	default:
		p.refuse(api.ErrForm)
	}
}

// once goes on behind the word of a part of which there may be one.
func (p *parser) once() {
	if p.had[p.now.text] {
		p.refuse(api.ErrThere)
	}
	p.had[p.now.text] = true
	p.advance()
}

func (p *parser) let() {
	p.advance()
	name := p.newName(p.given)
	p.pass("=")
	q := p.quantity()
	p.pass(";")
	p.lets[name] = q
}

func (p *parser) stage() {
	p.advance()
	var s api.Stage
	s.Name = p.newName(p.stages)
	p.block([]field{
		{"dry", boundsOf{p, ofMass, &s.Dry}.read},
		{"prop", boundsOf{p, ofMass, &s.Prop}.read},
	})
	p.vehicle.Stages = append(p.vehicle.Stages, s)
}

func (p *parser) engine() {
	p.advance()
	var x api.Engine
	x.Name = p.newName(p.engines)
	p.pass("in")
	s := p.stageNamed()
	p.block([]field{
		{"count", countOf{p, &x.Count}.read},
		{"thrust", boundsOf{p, ofThrust, &x.Thrust}.read},
		{"flow", boundsOf{p, ofFlow, &x.Flow}.read},
		{"least", lowerOf{p, noMeasure, &x.Least}.read},
		{"start", boundsOf{p, ofTime, &x.Start}.read},
		{"stop", boundsOf{p, ofTime, &x.Stop}.read},
	})
	s.Engines = append(s.Engines, x)
}

func (p *parser) drag() {
	p.pass("{")
	for !p.sees("}") {
		at := p.lower(ofSpeed, ":")
		area := p.bounds(ofArea)
		p.vehicle.Drag = append(p.vehicle.Drag, api.Point{At: at, Value: area})
	}
	p.advance()
}

// block reads fields, each once and in their order, between braces.
func (p *parser) block(fields []field) {
	p.pass("{")
	for _, f := range fields {
		p.pass(f.word)
		p.pass("=")
		f.read()
	}
	p.pass("}")
}

// seeName ends the reading unless the token is a name.
func (p *parser) seeName() {
	if p.now.kind != kindName {
		p.refuse(api.ErrForm)
	}
}

// newName reads a name that nothing of its kind may have yet.
func (p *parser) newName(taken names) string {
	p.seeName()
	name := p.now.text
	p.refuse(taken.give(name))
	p.advance()
	return name
}

// stageNamed reads the name of a stage that there is.
func (p *parser) stageNamed() *api.Stage {
	p.seeName()
	for i := range p.vehicle.Stages {
		if s := &p.vehicle.Stages[i]; s.Name == p.now.text {
			p.advance()
			return s
		}
	}
	p.refuse(api.ErrNone)
	return nil
}

// bounds reads bounds up to the semicolon. What is wrong with their numbers is at their first token, and comes before what is behind the semicolon.
func (p *parser) bounds(is measure) api.Span {
	at := p.now.at
	low := p.quantity()
	high, around := low, false
	if p.sees("+-", "..") {
		around = p.sees("+-")
		p.advance()
		high = p.quantity()
	}
	p.see(";")
	if !measuredAs(low, is) || !measuredAs(high, is) {
		must(at, api.ErrUnit)
	}
	if around {
		low, high = bothSides(low, high, at)
	}
	a := api.Span{Lo: rounded(Lower, low, at), Hi: rounded(Upper, high, at)}
	if a.Lo > a.Hi {
		must(at, api.ErrOrder)
	}
	p.advance()
	return a
}

// bothSides returns mid - by and mid + by.
func bothSides(mid, by api.Quantity, at int) (low, high api.Quantity) {
	low, e := Minus(mid, by)
	must(at, e)
	high, e = Plus(mid, by)
	must(at, e)
	return low, high
}

// rounded returns the lower or the upper number of a quantity.
func rounded(to func(api.Quantity) (api.Num, api.Errno), q api.Quantity, at int) api.Num {
	n, e := to(q)
	must(at, e)
	return n
}

// lower reads a quantity up to a sign, and returns its lower number.
func (p *parser) lower(is measure, sign string) api.Num {
	q, at := p.measured(is, sign)
	n := rounded(Lower, q, at)
	p.advance()
	return n
}

// count reads how many engines there are, up to the semicolon.
func (p *parser) count() int {
	q, at := p.measured(noMeasure, ";")
	if q.Den != 1 || q.Num < 1 || q.Num > api.MaxCount {
		must(at, api.ErrRange)
	}
	p.advance()
	return q.Num
}

// measured reads a quantity that has a dimension, up to a sign, and returns it and where it begins.
func (p *parser) measured(is measure, sign string) (api.Quantity, int) {
	at := p.now.at
	q := p.quantity()
	p.see(sign)
	if !measuredAs(q, is) {
		must(at, api.ErrUnit)
	}
	return q, at
}

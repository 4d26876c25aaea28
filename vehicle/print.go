package vehicle

import (
	"math/bits"
	"strconv"

	"ullage/api"
)

// Print writes a vehicle.
func Print(v api.Vehicle) string {
	if _, _, e := Check(v); e != api.OK {
		return ""
	}
	text := "vehicle " + v.Name + ";\n"
	for _, s := range v.Stages {
		text += "stage " + s.Name + " { dry = " + printBounds(s.Dry, ofMass) + "; prop = " + printBounds(s.Prop, ofMass) + "; }\n"
		for _, x := range s.Engines {
			text += printEngine(x, s.Name)
		}
	}
	text += "drag {"
	for _, p := range v.Drag {
		text += " " + printNum(p.At, ofSpeed) + " : " + printBounds(p.Value, ofArea) + ";"
	}
	text += " }\n"
	text += "limits { axial = " + printNum(v.Axial, ofAcceleration) + "; bending = " + printNum(v.Bending, ofPressure) + "; }\n"
	return text + "payload = " + printBounds(v.Payload, ofMass) + ";\n"
}

func printEngine(x api.Engine, stage string) string {
	return "engine " + x.Name + " in " + stage + " { count = " + strconv.Itoa(x.Count) +
		"; thrust = " + printBounds(x.Thrust, ofThrust) +
		"; flow = " + printBounds(x.Flow, ofFlow) +
		"; least = " + printNum(x.Least, noMeasure) +
		"; start = " + printBounds(x.Start, ofTime) +
		"; stop = " + printBounds(x.Stop, ofTime) + "; }\n"
}

func printBounds(a api.Span, is measure) string {
	return printNum(a.Lo, is) + " .. " + printNum(a.Hi, is)
}

// printNum writes a number that is not below 0 as a quotient in lowest terms, with its unit.
func printNum(n api.Num, is measure) string {
	// The denominator, 2^32, has no other common divisors than powers of 2.
	common := min(bits.TrailingZeros64(uint64(n)), bits.TrailingZeros64(uint64(api.One)))
	num, den := int64(n>>common), int64(api.One>>common)
	text := strconv.FormatInt(num, 10) + measures[is].unit
	if den != 1 {
		text += " / " + strconv.FormatInt(den, 10)
	}
	return text
}

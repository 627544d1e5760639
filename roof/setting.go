package roof

import (
	"trunnel/api"
	"trunnel/space"
)

// mostSetting is the greatest rise or run of a framing square.
const mostSetting = 1000

// Setting returns the setting of a framing square for a tangent.
func Setting(tangent api.Rat, most int) (int, int, api.Errno) {
	wanted, e := space.ReadNumber(tangent)
	if e != api.OK {
		return 0, 0, e
	}
	if wanted.Sign() < 0 || most < 1 || most > mostSetting {
		return 0, 0, api.ErrRange
	}
	rise, run := nearest(wanted, most)
	return rise, run, api.OK
}

// nearest returns the setting that is nearest to a tangent.
func nearest(tangent space.Number, most int) (rise, run int) {
	var least space.Number
	below := 0 // the greatest rise with a quotient that is not above the tangent
search:
	for length := 1; length <= most; length++ {
		for below < most && quotient(below+1, length).Compare(tangent) <= 0 {
			below++
		}
		for _, height := range [2]int{below, min(below+1, most)} {
			miss := magnitude(quotient(height, length).Minus(tangent))
			if run > 0 && miss.Compare(least) >= 0 {
				continue
			}
			rise, run, least = height, length, miss
			if least.IsZero() { // no greater run comes nearer
				break search
			}
		}
	}
	return rise, run
}

// quotient returns the quotient of a setting.
func quotient(rise, run int) space.Number { return space.Integer(rise).Over(space.Integer(run)) }

// magnitude returns the absolute value of a number.
func magnitude(a space.Number) space.Number {
	if a.Sign() < 0 {
		return a.Negated()
	}
	return a
}

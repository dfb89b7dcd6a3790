package hazard

import (
	"math/bits"

	"hangfire/api"
)

// maxRisk is the greatest number of a risk that is compared.
const maxRisk = 1000000000000000000

// Risk returns how many people can be expected to be harmed at most. Num is at most 12 times 10^12 people, times 10^4 square metres, so no number is too great for an int.
func Risk(m api.HzMap, l []api.FlImpact, laws []api.HzLaw) (api.HzRisk, api.Errno) {
	if _, _, e := Check(m); e != api.OK {
		return api.HzRisk{}, e
	}
	if len(l) > api.MaxHzImpacts {
		return api.HzRisk{}, api.ErrLong
	}
	if len(laws) != len(l) {
		return api.HzRisk{}, api.ErrArg
	}
	r := api.HzRisk{Den: api.Million * m.Size * m.Size}
	for i, x := range l {
		if !isImpact(x) {
			return api.HzRisk{}, api.ErrRange
		}
		_, people, e := Most(m, x.Area, laws[i])
		if e != api.OK {
			return api.HzRisk{}, e
		}
		r.Num += people * laws[i].Lethal
	}
	return r, api.OK
}

func isRisk(r api.HzRisk) bool { return isIn(r.Num, 0, maxRisk) && isIn(r.Den, 1, maxRisk) }

// Within reports whether a risk is at most another one.
func Within(a, b api.HzRisk) (bool, api.Errno) {
	if !isRisk(a) || !isRisk(b) {
		return false, api.ErrArg
	}
	// The products have up to 120 bits.
	high, low := bits.Mul64(uint64(a.Num), uint64(b.Den))
	highest, lowest := bits.Mul64(uint64(b.Num), uint64(a.Den))
	return high < highest || high == highest && low <= lowest, api.OK
}

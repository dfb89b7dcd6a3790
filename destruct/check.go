package destruct

import "hangfire/api"

// Check returns the part, the index in it and the error of a plan.
func Check(p api.DePlan) (part, at int, e api.Errno) {
	if !isIn(len(p.Lines), 1, api.MaxDeLines) {
		return 1, 0, api.ErrLong
	}
	for i, l := range p.Lines {
		if e := checkLine(l); e != api.OK {
			return 1, i, e
		}
	}
	if !lies(p.Gravity, 1, api.MaxFlGravity) || !isIn(p.Wait, 0, api.MaxDeWait) || !isIn(p.Blind, 0, api.MaxDeBlind) {
		return 2, 0, api.ErrRange
	}
	return 0, 0, api.OK
}

// checkLine returns the error of a line.
func checkLine(l api.DeLine) api.Errno {
	switch {
	case !isNormal(l.A), !isNormal(l.B), !isOffset(l.Keep), !isOffset(l.Line):
		return api.ErrRange
	case l.A == 0 && l.B == 0, l.Keep > l.Line:
		return api.ErrArg
	}
	return api.OK
}

func isNormal(n int) bool { return isIn(n, -api.MaxDeNormal, api.MaxDeNormal) }

func isOffset(n int) bool { return isIn(n, -api.MaxDeOffset, api.MaxDeOffset) }

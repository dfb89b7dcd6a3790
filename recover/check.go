package recover

import (
	"slices"

	"hangfire/api"
	"hangfire/wind"
)

// Check returns the part, the index in it and the error of a task.
func Check(t api.RcTask) (part, at int, e api.Errno) {
	if e := checkGrid(t); e != api.OK {
		return 1, 0, e
	}
	if at, e := checkFixes(t.Fixes); e != api.OK {
		return 2, at, e
	}
	if at, e := checkOwners(t.Owners); e != api.OK {
		return 3, at, e
	}
	if !isFlown(t) {
		return 4, 0, api.ErrRange
	}
	return 0, 0, api.OK
}

// checkGrid returns the error of the area and of the size of its cells.
func checkGrid(t api.RcTask) api.Errno {
	switch {
	case !isArea(t.Area), !isIn(t.Size, 1, api.MaxRcPlace):
		return api.ErrRange
	case strips(t.Area.X, t.Size)*strips(t.Area.Y, t.Size) > api.MaxRcCells:
		return api.ErrLong
	}
	return api.OK
}

func checkFixes(l []api.RcFix) (at int, e api.Errno) {
	if len(l) > api.MaxRcFixes {
		return 0, api.ErrLong
	}
	for i, f := range l {
		if e := checkFix(f); e != api.OK {
			return i, e
		}
	}
	return 0, api.OK
}

func checkFix(f api.RcFix) api.Errno {
	switch {
	case !isPart(f.X), !isPart(f.Y), !isStep(f.DX), !isStep(f.DY), !isIn(f.Tan, 0, maxTan):
		return api.ErrRange
	case f.DX == 0 && f.DY == 0:
		return api.ErrArg
	}
	return api.OK
}

// isStep reports whether a number is one of those of a direction of a fix.
func isStep(n int) bool { return isIn(n, -maxStep, maxStep) }

func checkOwners(l []api.RcOwner) (at int, e api.Errno) {
	if len(l) > api.MaxRcOwners {
		return 0, api.ErrLong
	}
	for i, o := range l {
		if e := checkOwner(o, l[:i]); e != api.OK {
			return i, e
		}
	}
	return 0, api.OK
}

// checkOwner returns the error of an owner that is behind other ones.
func checkOwner(o api.RcOwner, before []api.RcOwner) api.Errno {
	switch {
	case !wind.Name(o.Name):
		return api.ErrForm
	case slices.ContainsFunc(before, func(b api.RcOwner) bool { return b.Name == o.Name }):
		return api.ErrTwice
	case !isArea(o.Area), !isTick(o.Grant) && o.Grant != never:
		return api.ErrRange
	}
	return api.OK
}

// isFlown reports whether the numbers of the helicopter are as stated.
func isFlown(t api.RcTask) bool {
	return isPlace(t.Base) && isTick(t.Start) && isIn(t.Speed, 1, api.MaxSpeed) && isIn(t.Fuel, 1, api.MaxRcFuel) && isIn(t.Look, 1, api.MaxRcLook) && isIn(t.Turn, 0, api.MaxRcLook)
}

package window

import (
	"slices"

	"hangfire/api"
)

// Start returns the campaign at first.
func Start(p api.WiPlan) (api.WiState, api.Errno) {
	if _, _, e := Check(p); e != api.OK {
		return api.WiState{}, e
	}
	s := api.WiState{
		Used: make([]int, len(p.Teams)),
		Last: slices.Repeat([]int{none}, len(p.Teams)),
	}
	for _, t := range p.Teams {
		s.Credit = append(s.Credit, t.Credit)
	}
	return s, api.OK
}

// CheckState returns the error of a state of a campaign.
func CheckState(p api.WiPlan, s api.WiState) api.Errno {
	if _, _, e := Check(p); e != api.OK {
		return e
	}
	n := len(p.Teams)
	switch {
	case len(s.Used) != n, len(s.Credit) != n, len(s.Last) != n:
		return api.ErrArg
	case !areIn(s.Used, 0, api.MaxWiNeed), !areIn(s.Credit, -api.MaxWiCredit, 2*api.MaxWiCredit), !areIn(s.Last, none, api.MaxWiDay), !isIn(s.Next, 0, len(p.Windows)):
		return api.ErrRange
	}
	return api.OK
}

// outlook is a campaign before its next window: the plan, the state, and the sky of this window.
type outlook struct {
	api.WiPlan
	api.WiState
	sky api.WiSky
}

// newOutlook returns the outlook on the next window, or the first error of the plan, the state and the sky.
func newOutlook(p api.WiPlan, s api.WiState, sky api.WiSky) (outlook, api.Errno) {
	if e := CheckState(p, s); e != api.OK {
		return outlook{}, e
	}
	switch {
	case s.Next == len(p.Windows):
		return outlook{}, api.ErrDown
	case !isSky(sky):
		return outlook{}, api.ErrArg
	}
	return outlook{p, s, sky}, api.OK
}

// window returns the next window.
func (o *outlook) window() api.WiWindow { return o.Windows[o.Next] }

// isMinute reports whether a minute is one of the next window.
func (o *outlook) isMinute(n int) bool { return isIn(n, o.window().From, o.window().Until) }

package aim

import (
	"cmp"
	"slices"

	"hangfire/api"
)

// least returns the first element of a list with the least rank, and whether there is one.
func least[T any, R cmp.Ordered](l []T, rank func(T) R) (first T, ok bool) {
	for _, x := range l {
		if !ok || rank(x) < rank(first) {
			first, ok = x, true
		}
	}
	return first, ok
}

// best returns the best setting, and whether there is one.
func (o outlook) best() (setting int, ok bool) { return least(o.allowed(), o.miss) }

// far tells for each corner of the impact area of a setting whether it shows that the setting is not better than that of a choice.
func (o outlook) far(setting int, c api.AmChoice) [4]bool {
	var l [4]bool
	for i, miss := range o.corners(setting) {
		l[i] = miss > c.Miss || miss == c.Miss && setting > c.Setting
	}
	return l
}

// proofs tells for each side, or corner, whether a reason of a kind is so with it, for another setting than that of a choice.
func (o outlook) proofs(kind, setting int, c api.AmChoice) [4]bool {
	switch kind {
	case api.AmOut:
		return o.outside(setting)
	case api.AmFar:
		return o.far(setting, c)
	}
	return [4]bool{}
}

// reason returns why a setting is not better than the best one.
func (o outlook) reason(setting int, c api.AmChoice) api.AmReason {
	if setting == c.Setting {
		return api.AmReason{Kind: api.AmOwn}
	}
	kind := api.AmOut
	if o.allows(setting) {
		kind = api.AmFar
	}
	proofs := o.proofs(kind, setting, c)
	return api.AmReason{Kind: kind, At: slices.Index(proofs[:], true)}
}

// isSo reports whether a reason of a choice is as stated.
func (o outlook) isSo(r api.AmReason, setting int, c api.AmChoice) bool {
	if setting == c.Setting {
		return r == api.AmReason{Kind: api.AmOwn}
	}
	proofs := o.proofs(r.Kind, setting, c)
	return r.At >= 0 && r.At < len(proofs) && proofs[r.At]
}

// Best returns the best setting, with a reason for each other one.
func Best(t api.AmTask, l []api.WnBand) (api.AmChoice, api.Errno) {
	o, e := look(t, l)
	if e != api.OK {
		return api.AmChoice{}, e
	}
	setting, ok := o.best()
	if !ok {
		return api.AmChoice{}, api.ErrDown
	}
	c := api.AmChoice{Setting: setting, Miss: o.miss(setting)}
	for i := range t.Settings {
		c.Others = append(c.Others, o.reason(i, c))
	}
	return c, api.OK
}

// breach is what a choice does not keep to: an index, and the error.
type breach struct {
	at int
	e  api.Errno
}

// demand panics with a breach if something is not so.
func demand(so bool, at int, e api.Errno) {
	if !so {
		panic(breach{at: at, e: e})
	}
}

// accept returns the first breach of a choice.
func (o outlook) accept(c api.AmChoice) (at int, e api.Errno) {
	defer func() {
		if b, ok := recover().(breach); ok {
			at, e = b.at, b.e
		}
	}()
	demand(o.has(c.Setting) && o.allows(c.Setting), 0, api.AmErrSetting)
	demand(c.Miss == o.miss(c.Setting), 0, api.AmErrMiss)
	demand(len(c.Others) == len(o.Settings), 0, api.ErrArg)
	for i, r := range c.Others {
		demand(o.isSo(r, i, c), i, api.AmErrReason)
	}
	return 0, api.OK
}

// Accept checks a choice.
func Accept(t api.AmTask, l []api.WnBand, c api.AmChoice) (at int, e api.Errno) {
	o, e := look(t, l)
	if e != api.OK {
		return 0, e
	}
	return o.accept(c)
}

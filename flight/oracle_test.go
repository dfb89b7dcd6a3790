package flight_test

import (
	"math/big"
	"slices"

	"hangfire/api"
)

// This file has the chapter's definitions once more, as they stand there: by single numbers of the spans, of any size, and by single heights.

// some returns all numbers of a span, or, if it is wide, its ends, those beside them, and that nearest to 0.
func some(s api.Span) []int {
	var l []int
	if s.Hi-s.Lo <= 4 {
		for n := s.Lo; n <= s.Hi; n++ {
			l = append(l, n)
		}
		return l
	}
	return []int{s.Lo, s.Lo + 1, min(max(s.Lo, 0), s.Hi), s.Hi - 1, s.Hi}
}

// products returns the least and the greatest product of numbers of spans.
func products(l ...api.Span) (least, most *big.Int) {
	least, most = big.NewInt(1), big.NewInt(1)
	for _, s := range l {
		var all []*big.Int
		for _, n := range some(s) {
			f := big.NewInt(int64(n))
			all = append(all, new(big.Int).Mul(least, f), new(big.Int).Mul(most, f))
		}
		least, most = slices.MinFunc(all, (*big.Int).Cmp), slices.MaxFunc(all, (*big.Int).Cmp)
	}
	return least, most
}

// divided returns the span of products, divided by a mass and a number.
func divided(mass api.Span, n int, factors ...api.Span) api.Span {
	least, most := products(factors...)
	var lo, hi []*big.Int
	for _, m := range some(mass) {
		by := new(big.Int).Mul(big.NewInt(int64(m)), big.NewInt(int64(n)))
		lo = append(lo, new(big.Int).Div(least, by)) // Div rounds down, if it divides by more than 0
		hi = append(hi, new(big.Int).Neg(new(big.Int).Div(new(big.Int).Neg(most), by)))
	}
	return span(int(slices.MinFunc(lo, (*big.Int).Cmp).Int64()), int(slices.MaxFunc(hi, (*big.Int).Cmp).Int64()))
}

// heights returns all heights of a span at which something can change, and its ends.
func heights(z api.Span, changes []int) []int {
	l := []int{z.Lo, z.Hi}
	for _, n := range changes {
		for _, h := range []int{n - 1, n} {
			if has(z, h) {
				l = append(l, h)
			}
		}
	}
	return l
}

func windAt(bands []api.WnBand, height int) api.Area {
	for _, b := range bands {
		if height < b.To && (b.From <= height || height < 0) {
			return api.Area{X: b.X, Y: b.Y}
		}
	}
	return api.Area{}
}

func airAt(v api.FlVehicle, height int) int {
	for i := len(v.Air) - 1; i >= 0; i-- {
		if i == 0 || v.Air[i].From <= height {
			return v.Air[i].Dens
		}
	}
	return 0
}

func windsOver(bands []api.WnBand, z api.Span) api.Area {
	var changes []int
	for _, b := range bands {
		changes = append(changes, b.From, b.To)
	}
	a := windAt(bands, z.Lo)
	for _, h := range heights(z, changes) {
		w := windAt(bands, h)
		a = api.Area{X: hull(a.X, w.X), Y: hull(a.Y, w.Y)}
	}
	return a
}

func airOver(v api.FlVehicle, z api.Span) api.Span {
	var changes []int
	for _, a := range v.Air {
		changes = append(changes, a.From)
	}
	s := only(airAt(v, z.Lo))
	for _, h := range heights(z, changes) {
		s = hull(s, only(airAt(v, h)))
	}
	return s
}

func minus(a, b api.Span) api.Span { return span(a.Lo-b.Hi, a.Hi-b.Lo) }

func plus(a, b api.Span) api.Span { return span(a.Lo+b.Lo, a.Hi+b.Hi) }

// lengths returns the span R of the roots of the sums of squares.
func lengths(l ...api.Span) api.Span {
	lo, hi := new(big.Int), new(big.Int)
	for _, s := range l {
		var all []*big.Int
		for _, n := range some(s) {
			all = append(all, new(big.Int).Mul(big.NewInt(int64(n)), big.NewInt(int64(n))))
		}
		lo.Add(lo, slices.MinFunc(all, (*big.Int).Cmp))
		hi.Add(hi, slices.MaxFunc(all, (*big.Int).Cmp))
	}
	r := span(int(new(big.Int).Sqrt(lo).Int64()), int(new(big.Int).Sqrt(hi).Int64()))
	if new(big.Int).Mul(big.NewInt(int64(r.Hi)), big.NewInt(int64(r.Hi))).Cmp(hi) < 0 {
		r.Hi++
	}
	return r
}

// phaseAt looks for the phase that has begun, and has not lasted its ticks.
func phaseAt(v api.FlVehicle, tick int) api.FlPhase {
	begin := 0
	for _, p := range v.Phases {
		if begin <= tick && tick < begin+p.Ticks {
			return p
		}
		begin += p.Ticks
	}
	p := v.Phases[len(v.Phases)-1]
	p.Thrust, p.Tilt = api.Span{}, api.FlTilt{}
	return p
}

// forceOn returns the force on a state in a phase.
func forceOn(v api.FlVehicle, d api.FlDir, bands []api.WnBand, p api.FlPhase, s api.FlState) api.FlForce {
	w := windsOver(bands, s.Z)
	past := [3]api.Span{minus(s.VX, w.X), minus(s.VY, w.Y), s.VZ}
	air, long := airOver(v, s.Z), lengths(past[:]...)
	axis := func(past, tilt api.Span, d int) api.Span {
		push := divided(p.Mass, 10000, p.Thrust, only(10), plus(only(d), tilt))
		return minus(push, divided(p.Mass, 1000000000, p.Drag, air, long, past))
	}
	return api.FlForce{
		X: axis(past[0], p.Tilt.X, d.X),
		Y: axis(past[1], p.Tilt.Y, d.Y),
		Z: minus(axis(past[2], p.Tilt.Z, d.Z), v.Gravity),
	}
}

// next returns the state a tick after another one.
func next(s api.FlState, f api.FlForce) api.FlState {
	s.VX, s.VY, s.VZ = plus(s.VX, f.X), plus(s.VY, f.Y), plus(s.VZ, f.Z)
	s.X, s.Y, s.Z = plus(s.X, s.VX), plus(s.Y, s.VY), plus(s.Z, s.VZ)
	return s
}

func isFar(s api.FlState) bool {
	for i, x := range spansOf(&s) {
		most := api.MaxPlace
		if i > 2 {
			most = api.MaxSpeed
		}
		if x.Lo < -most || x.Hi > most {
			return true
		}
	}
	return false
}

// flown returns the states of the vehicle up to a tick, or up to the first one that is too far.
func flown(v api.FlVehicle, d api.FlDir, bands []api.WnBand, until int) []api.FlState {
	l := []api.FlState{{}}
	for tick := range until {
		s := l[tick]
		l = append(l, next(s, forceOn(v, d, bands, phaseAt(v, tick), s)))
		if isFar(l[tick+1]) {
			break
		}
	}
	return l
}

// flownPiece returns the states of a piece from At on, or the one of the vehicle that is too far before.
func flownPiece(v api.FlVehicle, d api.FlDir, bands []api.WnBand, piece, until int) []api.FlState {
	p := v.Pieces[piece]
	before := flown(v, d, bands, p.At)
	s := before[len(before)-1]
	if isFar(s) {
		return []api.FlState{s}
	}
	s.VX, s.VY, s.VZ = plus(s.VX, p.Kick.X), plus(s.VY, p.Kick.Y), plus(s.VZ, p.Kick.Z)
	l := []api.FlState{s}
	for tick := p.At; tick < until && !isFar(s); tick++ {
		s = next(s, forceOn(v, d, bands, api.FlPhase{Mass: p.Mass, Drag: p.Drag}, s))
		l = append(l, s)
	}
	return l
}

// landed returns the impact of states of which the first one is at a tick.
func landed(l []api.FlState, piece, first, floor int) (api.FlImpact, api.Errno) {
	begin, end := -1, -1
	for i, s := range l {
		if isFar(s) && end < 0 {
			return api.FlImpact{}, api.ErrLong
		}
		if i > 0 && begin < 0 && s.Z.Lo <= floor {
			begin = i
		}
		if i > 0 && end < 0 && s.Z.Hi <= floor {
			end = i
		}
	}
	if end < 0 {
		return api.FlImpact{}, api.ErrDown
	}
	x := api.FlImpact{Piece: piece, Area: api.Area{X: l[begin].X, Y: l[begin].Y}, At: span(first+begin, first+end)}
	for _, s := range l[begin : end+1] {
		x.Area = api.Area{X: hull(x.Area.X, s.X), Y: hull(x.Area.Y, s.Y)}
	}
	return x, api.OK
}

package flight

import (
	"hangfire/api"
	"hangfire/wind"
)

// layer is what there is at the heights from one on, up to the next layer.
type layer[T any] struct {
	from int
	has  T
}

// through returns the hull of what layers have at the heights of a span. The first one reaches down without an end.
func through[T any](l []layer[T], z span, hull func(a, b T) T) T {
	lowest := 0
	for lowest+1 < len(l) && l[lowest+1].from <= z.Lo {
		lowest++
	}
	has := l[lowest].has
	for _, next := range l[lowest+1:] {
		if next.from > z.Hi {
			break
		}
		has = hull(has, next.has)
	}
	return has
}

// windLayers returns the winds of bands, with no wind above the last one, and none up or down.
func windLayers(bands []api.WnBand) []layer[axes] {
	var l []layer[axes]
	var top int
	for _, b := range bands {
		l = append(l, layer[axes]{from: b.From, has: axes{span(b.X), span(b.Y)}})
		top = b.To
	}
	return append(l, layer[axes]{from: top})
}

// airLayers returns how dense the air is by entries; without entries there is none.
func airLayers(entries []api.FlAir) []layer[span] {
	var l []layer[span]
	for _, a := range entries {
		l = append(l, layer[span]{from: a.From, has: one(a.Dens)})
	}
	if len(l) == 0 {
		return []layer[span]{{}}
	}
	return l
}

// Winds returns the wind that there can be between two heights.
func Winds(bands []api.WnBand, z api.Span) (api.Area, api.Errno) {
	if _, e := wind.CheckBands(bands); e != api.OK {
		return api.Area{}, e
	}
	if !span(z).within(api.MaxPlace) {
		return api.Area{}, api.ErrRange
	}
	w := through(windLayers(bands), span(z), axes.hull)
	return w.area(), api.OK
}

// area returns the area of X and Y.
func (a axes) area() api.Area { return api.Area{X: api.Span(a[0]), Y: api.Span(a[1])} }

// Air returns how dense the air can be between two heights.
func Air(v api.FlVehicle, z api.Span) (api.Span, api.Errno) {
	if _, _, e := Check(v); e != api.OK {
		return api.Span{}, e
	}
	if !span(z).within(api.MaxPlace) {
		return api.Span{}, api.ErrRange
	}
	return api.Span(through(airLayers(v.Air), span(z), span.hull)), api.OK
}

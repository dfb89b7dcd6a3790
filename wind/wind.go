// Package wind is layer 1: see shared/doc/01-wind.md.
package wind

import "hangfire/api"

// Name reports whether a string is a name.
func Name(s string) bool {
	if len(s) < 1 || len(s) > api.MaxName || !isLetter(s[0]) {
		return false
	}
	for i := 1; i < len(s); i++ {
		if c := s[i]; !isLetter(c) && !isDigit(c) && c != '-' {
			return false
		}
	}
	return true
}

func isLetter(c byte) bool { return c >= 'a' && c <= 'z' }

func isDigit(c byte) bool { return c >= '0' && c <= '9' }

func isTick(n int) bool { return n >= 0 && n <= api.MaxTick }

func isHeight(n int) bool { return n >= 0 && n < api.MaxWnHeight }

func isPart(n int) bool { return n >= -api.MaxWnWind && n <= api.MaxWnWind }

// lies reports whether all numbers of a span are in another one.
func lies(a, in api.Span) bool { return a.Lo >= in.Lo && a.Hi <= in.Hi }

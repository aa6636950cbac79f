package scheme

import (
	"slices"

	"shape/kind"
)

// Around keeps what the nearest \ or @ around a part says of each name: nil where none does.
type Around [26]*Scheme

// Of answers the scheme of a name, or nil if it is free.
func (a *Around) Of(name byte) *Scheme {
	return a[name-'a']
}

// With answers what is around a part where the name has that scheme. It leaves a as it is.
func (a *Around) With(name byte, s *Scheme) *Around {
	inner := *a
	inner[name-'a'] = s
	return &inner
}

// Fixes tells whether one of the schemes does.
func (a *Around) Fixes(v kind.Variable) bool {
	return slices.ContainsFunc(a[:], func(s *Scheme) bool {
		return s != nil && s.Fixes(v)
	})
}

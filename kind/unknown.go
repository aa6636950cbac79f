package kind

// Unknown is a variable that is to be found. It is bound in place, to what it stands for, when
// that is known: wherever it stands in types, it then stands for that.
//
// Its level says within which @ it was made: of how many @ the first part is around it. What
// a name around such a first part has in its type is of a lower level, so it can be told there
// from what may be taken for anything.
type Unknown struct {
	level int
	bound Type
}

func (*Unknown) isType() {}

// NewUnknown makes one that is not bound.
func NewUnknown(level int) *Unknown {
	return &Unknown{level: level}
}

// bind refuses a type within which the unknown stands: it would stand within itself.
func (u *Unknown) bind(t Type) bool {
	l := lowering{unknown: u}
	defer l.end()
	l.lower(t)
	if l.met {
		return false
	}
	u.bound = t
	return true
}

// A lowering takes the unknowns of a type down to the level of the one that is to be bound to
// it: they will stand wherever that one does.
type lowering struct {
	visit
	unknown *Unknown
	met     bool
}

func (l *lowering) lower(t Type) {
	t = found(t)
	if u, ok := t.(*Unknown); ok {
		u.level = min(u.level, l.unknown.level)
		l.met = l.met || u == l.unknown
	}
	l.eachPartOnce(t, l.lower)
}

// found answers what an unknown is bound to, and any other type as it is.
func found(t Type) Type {
	for {
		u, ok := t.(*Unknown)
		if !ok || u.bound == nil {
			return t
		}
		t = u.bound
	}
}

// Unify binds unknowns of two types, and no more of them than it must, so that the types are
// the same. It tells whether they can be; if they can't, some are bound nevertheless.
func Unify(one, other Type) bool {
	one, other = found(one), found(other)
	if one == other {
		return true
	}
	if u, ok := one.(*Unknown); ok {
		return u.bind(other)
	}
	if u, ok := other.(*Unknown); ok {
		return u.bind(one)
	}
	return alike(one, other, Unify)
}

// Settle binds the unknowns of a type that are above the level, and not bound, to variables,
// each to the next one. It answers the type without those that are bound.
func Settle(t Type, level int, next func() Variable) Type {
	s := settling{level: level, next: next}
	defer s.end()
	return s.settle(t)
}

type settling struct {
	visit
	level int
	next  func() Variable
}

func (s *settling) settle(t Type) Type {
	t = found(t)
	u, ok := t.(*Unknown)
	if !ok {
		return s.remakeOnce(t, s.settle)
	}
	if u.level <= s.level {
		return u
	}
	u.bound = s.next()
	return u.bound
}

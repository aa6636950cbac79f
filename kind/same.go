package kind

// Same tells whether two types differ in needless brackets at most.
func Same(one, other Type) bool {
	var v visit
	defer v.end()
	return v.same(one, other)
}

// same keeps of each part of the one the last part of the other that it is the same as.
func (v *visit) same(one, other Type) bool {
	if one == other || v.at(one) == other {
		return true
	}
	if !v.sameParts(one, other) {
		return false
	}
	v.keep(one, other)
	return true
}

func (v *visit) sameParts(one, other Type) bool {
	switch x := one.(type) {
	case *List:
		y, ok := other.(*List)
		return ok && v.same(x.Of, y.Of)
	case *Pair:
		y, ok := other.(*Pair)
		return ok && v.same(x.First, y.First) && v.same(x.Second, y.Second)
	case *Function:
		y, ok := other.(*Function)
		return ok && v.same(x.From, y.From) && v.same(x.To, y.To)
	}
	return false
}

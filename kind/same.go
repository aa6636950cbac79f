package kind

// Same tells whether two types differ in needless brackets at most.
func Same(one, other Type) bool {
	var v visit
	defer v.end()
	return v.same(one, other)
}

// same keeps of each part of the one the last part of the other that it is the same as.
func (v *visit) same(one, other Type) bool {
	if one == other || v.at(one) == other {
		return true
	}
	if !alike(one, other, v.same) {
		return false
	}
	v.keep(one, other)
	return true
}

package kind

// Instance tells whether special is general with some types in the place of its variables.
//
// The variables of special are no more than they are: even where they have the names of
// general's, nothing is put in their place.
func Instance(general, special Type) bool {
	return fits(general, special, map[Variable]Type{})
}

// fits keeps in taken what stands in the place of each variable of general, so that the
// same type is asked of it wherever it stands again.
func fits(general, special Type, taken map[Variable]Type) bool {
	v, ok := general.(Variable)
	if !ok {
		return alike(general, special, func(g, s Type) bool { return fits(g, s, taken) })
	}
	before, ok := taken[v]
	if !ok {
		taken[v] = special
		return true
	}
	return Same(before, special)
}

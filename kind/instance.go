package kind

// Instance tells whether special is general with some types in the place of its variables.
//
// The variables of special are no more than they are: even where they have the names of
// general's, nothing is put in their place.
func Instance(general, special Type) bool {
	return fits(general, special, map[Variable]Type{})
}

// fits keeps in taken what stands in the place of each variable of general, so that the
// same type is asked of it wherever it stands again.
func fits(general, special Type, taken map[Variable]Type) bool {
	switch g := general.(type) {
	case Whole, Truth:
		return Same(g, special)
	case Variable:
		before, ok := taken[g]
		if !ok {
			taken[g] = special
			return true
		}
		return Same(before, special)
	case *List:
		s, ok := special.(*List)
		return ok && fits(g.Of, s.Of, taken)
	case *Pair:
		s, ok := special.(*Pair)
		return ok && fits(g.First, s.First, taken) && fits(g.Second, s.Second, taken)
	case *Function:
		s, ok := special.(*Function)
		return ok && fits(g.From, s.From, taken) && fits(g.To, s.To, taken)
	}
	return false
}

package kind

func eachPart(t Type, do func(part Type)) {
	switch x := t.(type) {
	case *List:
		do(x.Of)
	case *Pair:
		do(x.First)
		do(x.Second)
	case *Function:
		do(x.From)
		do(x.To)
	}
}

// remade answers the type with other parts in the place of its own. If all of them stay, it
// is not made anew.
func remade(t Type, change func(part Type) Type) Type {
	switch x := t.(type) {
	case *List:
		if of := change(x.Of); of != x.Of {
			return NewList(of)
		}
	case *Pair:
		first, second := change(x.First), change(x.Second)
		if first != x.First || second != x.Second {
			return NewPair(first, second)
		}
	case *Function:
		from, to := change(x.From), change(x.To)
		if from != x.From || to != x.To {
			return NewFunction(from, to)
		}
	}
	return t
}

// alike tells whether two types are of one kind, and hold says yes to each part of the one
// with that part of the other which is in its place.
func alike(one, other Type, hold func(one, other Type) bool) bool {
	switch x := one.(type) {
	case *List:
		y, ok := other.(*List)
		return ok && hold(x.Of, y.Of)
	case *Pair:
		y, ok := other.(*Pair)
		return ok && hold(x.First, y.First) && hold(x.Second, y.Second)
	case *Function:
		y, ok := other.(*Function)
		return ok && hold(x.From, y.From) && hold(x.To, y.To)
	}
	return one == other
}

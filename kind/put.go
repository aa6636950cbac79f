package kind

import "slices"

// Put answers the type with the given ones in the place of the variables, all at once: one
// for each variable, in their order. A part without these variables is not made anew.
func Put(t Type, variables []Variable, given []Type) Type {
	p := putting{visit: &visit{}, variables: variables, given: given}
	defer p.end()
	return p.put(t)
}

type putting struct {
	*visit
	variables []Variable
	given     []Type
}

func (p putting) put(t Type) Type {
	if made := p.at(t); made != nil {
		return made
	}
	made := p.anew(t)
	p.keep(t, made)
	return made
}

func (p putting) anew(t Type) Type {
	switch x := t.(type) {
	case Variable:
		if i := slices.Index(p.variables, x); i >= 0 {
			return p.given[i]
		}
	case *List:
		if of := p.put(x.Of); of != x.Of {
			return NewList(of)
		}
	case *Pair:
		first, second := p.put(x.First), p.put(x.Second)
		if first != x.First || second != x.Second {
			return NewPair(first, second)
		}
	case *Function:
		from, to := p.put(x.From), p.put(x.To)
		if from != x.From || to != x.To {
			return NewFunction(from, to)
		}
	}
	return t
}

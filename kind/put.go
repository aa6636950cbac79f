package kind

import "slices"

// Put answers the type with the given ones in the place of the variables, all at once: one
// for each variable, in their order. A part without these variables is not made anew.
func Put(t Type, variables []Variable, given []Type) Type {
	p := putting{variables: variables, given: given}
	defer p.end()
	return p.put(t)
}

type putting struct {
	visit
	variables []Variable
	given     []Type
}

func (p *putting) put(t Type) Type {
	if x, ok := t.(Variable); ok {
		return p.inPlaceOf(x)
	}
	return p.remakeOnce(t, p.put)
}

func (p *putting) inPlaceOf(v Variable) Type {
	if i := slices.Index(p.variables, v); i >= 0 {
		return p.given[i]
	}
	return v
}

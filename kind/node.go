package kind

// node is what a type with parts keeps beside them.
type node struct {
	count int
	last  *visit
	index int
}

func above(parts ...Type) node {
	count := 1
	for _, part := range parts {
		count += Nodes(part)
	}
	return node{count: count}
}

// nodeOf answers nil for a type without parts.
func nodeOf(t Type) *node {
	switch x := t.(type) {
	case *List:
		return &x.node
	case *Pair:
		return &x.node
	case *Function:
		return &x.node
	}
	return nil
}

// Nodes counts a part as often as it stands in the type.
func Nodes(t Type) int {
	if n := nodeOf(t); n != nil {
		return n.count
	}
	return 1
}

// A visit goes through a type, and keeps what it found at each part: so it goes through a part
// once, however often that stands in the type. No two visits may go on at the same time.
type visit struct {
	found []Type
}

// at answers nil where the visit has kept nothing.
func (v *visit) at(t Type) Type {
	n := nodeOf(t)
	if n == nil || n.last != v {
		return nil
	}
	return v.found[n.index]
}

func (v *visit) keep(t, found Type) {
	if n := nodeOf(t); n != nil {
		n.last, n.index = v, len(v.found)
		v.found = append(v.found, found)
	}
}

// end lets go of what was found: the parts that were visited still know the visit.
func (v *visit) end() {
	v.found = nil
}

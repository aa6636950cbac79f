package kind

// node is what a type with parts keeps beside them.
type node struct {
	count int
	found Type  // by the visit that goes on
	next  *node // of those that it came by
}

func above(parts ...Type) node {
	count := 1
	for _, part := range parts {
		count += Nodes(part)
	}
	return node{count: count}
}

// nodeOf answers nil for a type without parts.
func nodeOf(t Type) *node {
	switch x := t.(type) {
	case *List:
		return &x.node
	case *Pair:
		return &x.node
	case *Function:
		return &x.node
	}
	return nil
}

// Nodes counts a part as often as it stands in the type, and an unknown as one.
func Nodes(t Type) int {
	if n := nodeOf(t); n != nil {
		return n.count
	}
	return 1
}

// A visit goes through a type, and keeps at each part what it found there: so it goes through
// a part once, however often that stands in the type. No two visits may go on at the same time.
type visit struct {
	last *node
}

// at answers nil where the visit has kept nothing.
func (v *visit) at(t Type) Type {
	if n := nodeOf(t); n != nil {
		return n.found
	}
	return nil
}

func (v *visit) keep(t, found Type) {
	n := nodeOf(t)
	if n == nil {
		return
	}
	if n.found == nil {
		n.next, v.last = v.last, n
	}
	n.found = found
}

// end leaves all parts as they were.
func (v *visit) end() {
	for v.last != nil {
		n := v.last
		v.last = n.next
		n.found, n.next = nil, nil
	}
}

// remakeOnce answers what the visit made of the type when it came by ahead.
func (v *visit) remakeOnce(t Type, change func(part Type) Type) Type {
	if made := v.at(t); made != nil {
		return made
	}
	made := remade(t, change)
	v.keep(t, made)
	return made
}

// eachPartOnce does nothing if the visit came by ahead.
func (v *visit) eachPartOnce(t Type, do func(part Type)) {
	if v.at(t) != nil {
		return
	}
	eachPart(t, do)
	v.keep(t, t)
}

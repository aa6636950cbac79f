package kind

// Variables is a set of them: for each letter one bit a digit.
type Variables [26]uint16

// VariablesOf answers those that stand in a type.
func VariablesOf(t Type) Variables {
	var all Variables
	var v visit
	defer v.end()
	v.addTo(&all, t)
	return all
}

func (v *visit) addTo(all *Variables, t Type) {
	if v.at(t) != nil {
		return
	}
	switch x := t.(type) {
	case Variable:
		all.Add(x)
	case *List:
		v.addTo(all, x.Of)
	case *Pair:
		v.addTo(all, x.First)
		v.addTo(all, x.Second)
	case *Function:
		v.addTo(all, x.From)
		v.addTo(all, x.To)
	}
	v.keep(t, t)
}

// Add puts a variable in.
func (all *Variables) Add(v Variable) {
	all[v.Letter-'a'] |= 1 << v.Digit
}

// Remove takes a variable out.
func (all *Variables) Remove(v Variable) {
	all[v.Letter-'a'] &^= 1 << v.Digit
}

// Has tells whether a variable is in.
func (all *Variables) Has(v Variable) bool {
	return all[v.Letter-'a']>>v.Digit&1 == 1
}

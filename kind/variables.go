package kind

const letters = 26

// NumberedVariable answers the variables in the order of their names: a to z, then a1 to z1,
// a2 to z2 and so on. There are 260 of them, from 0 on.
func NumberedVariable(n int) Variable {
	return Variable{Letter: 'a' + byte(n%letters), Digit: byte(n / letters)}
}

// Variables is a set of them: for each letter one bit a digit.
type Variables [letters]uint16

// VariablesOf answers those that stand in a type.
func VariablesOf(t Type) Variables {
	var all Variables
	var v visit
	defer v.end()
	v.addTo(&all, t)
	return all
}

func (v *visit) addTo(all *Variables, t Type) {
	if x, ok := t.(Variable); ok {
		all.Add(x)
	}
	v.eachPartOnce(t, func(part Type) { v.addTo(all, part) })
}

// Add puts a variable in.
func (all *Variables) Add(v Variable) {
	all[v.Letter-'a'] |= 1 << v.Digit
}

// Remove takes a variable out.
func (all *Variables) Remove(v Variable) {
	all[v.Letter-'a'] &^= 1 << v.Digit
}

// Has tells whether a variable is in.
func (all *Variables) Has(v Variable) bool {
	return all[v.Letter-'a']>>v.Digit&1 == 1
}

package kind

import "testing"

// settled names what is left unknown, and tells of how many it did.
func settled(t Type, level int) (text string, named int) {
	settled := Settle(t, level, func() Variable {
		named++
		return NumberedVariable(named - 1)
	})
	return Write(settled), named
}

func TestUnify(t *testing.T) {
	u, v := NewUnknown(0), NewUnknown(0)
	for _, c := range []struct {
		one, other Type
		want       string
	}{
		{NewList(u), NewList(v), "[a]"},
		{u, NewPair(Whole{}, v), "I*a"},
		{NewFunction(u, v), NewFunction(Whole{}, Truth{}), "I>B"},
		{NewFunction(u, u), NewFunction(NewList(v), NewList(Truth{})), "[B]>[B]"},
		{NewPair(NewFunction(u, v), u), NewPair(NewFunction(v, Whole{}), u), "(I>I)*I"},
		{NewPair(u, v), NewPair(v, u), "a*a"},
		{NewPair(u, NewPair(v, v)), NewPair(v, NewPair(u, Whole{})), "I*(I*I)"},
		{u, u, "a"},
		{NewPair(u, v), NewPair(u, v), "a*b"},
		{Variable{Letter: 'x'}, Variable{Letter: 'x'}, "a"},
		{NewList(Variable{Letter: 'x'}), NewList(u), "[a]"},
	} {
		*u, *v = Unknown{}, Unknown{}
		for range 2 {
			if !Unify(c.one, c.other) {
				t.Errorf("there is no %s", c.want)
			}
		}
		one, _ := settled(c.one, -1)
		if other, _ := settled(c.other, -1); one != c.want || other != c.want {
			t.Errorf("they are %s and %s, want %s", one, other, c.want)
		}
	}
}

func TestUnifyRefuses(t *testing.T) {
	u, v := NewUnknown(0), NewUnknown(0)
	a, b := Variable{Letter: 'a'}, Variable{Letter: 'b'}
	for i, c := range []struct{ one, other Type }{
		{Whole{}, Truth{}},
		{Whole{}, NewList(u)},
		{a, b},
		{a, Whole{}},
		{NewList(u), NewPair(u, v)},
		{NewPair(u, v), NewFunction(u, v)},
		{NewPair(u, u), NewPair(Whole{}, Truth{})},
		{NewPair(Whole{}, u), NewPair(Truth{}, v)},
		{NewFunction(u, Whole{}), NewFunction(v, Truth{})},
		{u, NewList(u)},
		{NewFunction(v, u), u},
		{NewPair(u, v), NewPair(NewList(v), NewList(u))},
		{NewPair(u, u), NewPair(v, NewList(NewList(v)))},
	} {
		for range 2 {
			*u, *v = Unknown{}, Unknown{}
			if Unify(c.one, c.other) {
				t.Errorf("those of number %d are taken for the same", i)
			}
			c.one, c.other = c.other, c.one
		}
	}
}

// What an unknown is bound to comes down to its level, whichever way it is bound.
func TestLevels(t *testing.T) {
	for _, swap := range []bool{false, true} {
		unify := func(one, other Type) {
			if swap {
				one, other = other, one
			}
			if !Unify(one, other) {
				t.Error("they can't be the same")
			}
		}
		out, in, free := NewUnknown(1), NewUnknown(2), NewUnknown(2)
		unify(out, NewList(in))
		if text, named := settled(NewPair(NewPair(out, in), free), 1); named != 1 {
			t.Errorf("in %s %d are named, want 1", text, named)
		}
		out, in = NewUnknown(1), NewUnknown(3)
		unify(in, out)
		for _, c := range []struct{ level, want int }{{3, 0}, {2, 0}, {1, 0}, {0, 1}} {
			if _, named := settled(NewPair(in, out), c.level); named != c.want {
				t.Errorf("above the level %d %d are named, want %d", c.level, named, c.want)
			}
		}
	}
	// by way of one that is bound ahead
	out, between, in := NewUnknown(0), NewUnknown(1), NewUnknown(1)
	if !Unify(between, NewList(in)) || !Unify(out, NewList(between)) {
		t.Error("they can't be the same")
	}
	if _, named := settled(in, 0); named != 0 {
		t.Error("what is far within keeps its level")
	}
}

func TestSettleNamesFromTheLeft(t *testing.T) {
	u, v, out := NewUnknown(1), NewUnknown(1), NewUnknown(0)
	var next int
	name := func() Variable {
		next++
		return NumberedVariable(next - 1)
	}
	part := NewPair(v, out)
	whole := Settle(NewFunction(part, NewFunction(u, part)), 0, name)
	if next != 2 || v.bound != (Variable{Letter: 'a'}) || u.bound != (Variable{Letter: 'b'}) || out.bound != nil {
		t.Errorf("%d are named: %v %v %v", next, v.bound, u.bound, out.bound)
	}
	Unify(out, NewList(Truth{}))
	whole = Settle(whole, 0, name)
	if want := read(t, "a*[B]>b>a*[B]"); next != 2 || !Same(whole, want) || Nodes(whole) != Nodes(want) {
		t.Errorf("it is %s, of %d nodes", Write(whole), Nodes(whole))
	}
}

// What stands in a type many times is gone through once: else this would not end.
func TestUnknownsThatDouble(t *testing.T) {
	double := func(u Type) Type {
		for range 60 {
			next := NewUnknown(1)
			Unify(next, NewPair(u, u))
			u = next
		}
		return u
	}
	low, high := NewUnknown(0), NewUnknown(1)
	if !Unify(low, double(high)) || high.level != 0 {
		t.Error("the levels of a type that doubles")
	}
	if Unify(high, low) {
		t.Error("a type stands within itself")
	}
	all := VariablesOf(Settle(low, -1, func() Variable { return Variable{Letter: 'c'} }))
	if all != (Variables{2: 1}) {
		t.Errorf("the variables are %v", all)
	}
}

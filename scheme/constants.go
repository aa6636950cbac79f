package scheme

import (
	"shape/fault"
	"shape/kind"
)

type row struct {
	letter byte
	of     string
	own    string
}

var constants = [...]row{
	{'N', "[a]", "a"},
	{'C', "a>[a]>[a]", "a"},
	{'P', "a>b>a*b", "ab"},
	{'L', "a*b>a", "ab"},
	{'R', "a*b>b", "ab"},
	{'J', "B>a>a>a", "a"},
	{'E', "I>I>B", ""},
	{'A', "I>I>I", ""},
	{'Y', "(a>a)>a", "a"},
	{'D', "(a>b>b)>b>[a]>b", "ab"},
}

// Constant answers the scheme of a constant. It is made anew each time, so that no two calls
// of the program share one.
func Constant(letter byte) (*Scheme, error) {
	for _, r := range constants {
		if r.letter == letter {
			return r.scheme()
		}
	}
	return nil, fault.Free
}

func (r row) scheme() (*Scheme, error) {
	of, err := kind.Read(r.of)
	if err != nil {
		return nil, err
	}
	var own []kind.Variable
	for i := range len(r.own) {
		own = append(own, kind.Variable{Letter: r.own[i]})
	}
	return New(of, own...), nil
}

// Literal answers the type of a digit or a truth value.
func Literal(sign byte) kind.Type {
	if sign == 'T' || sign == 'F' {
		return kind.Truth{}
	}
	return kind.Whole{}
}

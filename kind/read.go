package kind

import "shape/scan"

// Read refuses a text that is no type with a fault.Text at its place.
func Read(text string) (Type, error) {
	r := scan.New(text)
	t, err := ReadFrom(r)
	if err != nil {
		return nil, err
	}
	if err := r.End(); err != nil {
		return nil, err
	}
	return t, nil
}

// ReadFrom reads as far as the type goes.
func ReadFrom(r *scan.Reader) (Type, error) {
	from, err := readProduct(r)
	if err != nil {
		return nil, err
	}
	if !r.Take('>') {
		return from, nil
	}
	to, err := ReadFrom(r)
	if err != nil {
		return nil, err
	}
	return NewFunction(from, to), nil
}

func readProduct(r *scan.Reader) (Type, error) {
	product, err := readUnit(r)
	if err != nil {
		return nil, err
	}
	for r.Take('*') {
		second, err := readUnit(r)
		if err != nil {
			return nil, err
		}
		product = NewPair(product, second)
	}
	return product, nil
}

func readUnit(r *scan.Reader) (Type, error) {
	switch {
	case r.Take('I'):
		return Whole{}, nil
	case r.Take('B'):
		return Truth{}, nil
	case r.Take('['):
		of, err := readClosed(r, ']')
		if err != nil {
			return nil, err
		}
		return NewList(of), nil
	case r.Take('('):
		return readClosed(r, ')')
	}
	return readVariable(r)
}

func readClosed(r *scan.Reader, bracket byte) (Type, error) {
	t, err := ReadFrom(r)
	if err != nil {
		return nil, err
	}
	if err := r.Want(bracket); err != nil {
		return nil, err
	}
	return t, nil
}

func readVariable(r *scan.Reader) (Type, error) {
	v, err := ReadVariable(r)
	if err != nil {
		return nil, err
	}
	return v, nil
}

// ReadVariable reads the one variable that must stand here.
func ReadVariable(r *scan.Reader) (Variable, error) {
	letter, err := r.Letter()
	if err != nil {
		return Variable{}, err
	}
	digit := r.Peek()
	if digit < '1' || '9' < digit {
		return Variable{Letter: letter}, nil
	}
	r.Skip()
	return Variable{Letter: letter, Digit: digit - '0'}, nil
}

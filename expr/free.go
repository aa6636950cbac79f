package expr

import "shape/fault"

// NoneFree refuses an expression with the first name that is free: that nothing around it says.
func NoneFree(e Expr) error {
	return names(0).noneFree(e)
}

// names are those that are said around a part: one bit a letter.
type names uint32

func (said names) has(name byte) bool {
	return said>>(name-'a')&1 == 1
}

func (said names) with(name byte) names {
	return said | 1<<(name-'a')
}

func (said names) noneFree(e Expr) error {
	switch x := e.(type) {
	case Name:
		if !said.has(x.Letter) {
			return &fault.At{Place: x.Place, Err: fault.Free}
		}
	case Function:
		return said.with(x.Name).noneFree(x.Body)
	case Let:
		if err := said.noneFree(x.Value); err != nil {
			return err
		}
		return said.with(x.Name).noneFree(x.Rest)
	case Call:
		if err := said.noneFree(x.First); err != nil {
			return err
		}
		return said.noneFree(x.Second)
	}
	return nil
}

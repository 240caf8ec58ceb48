package machine

import "races/api"

// operate tells what an operator makes of two values; no: they are not of its kind.
func operate(op int, a, b api.Value) (api.Value, bool) {
	if op == api.OSame {
		return truth(a == b), true
	}
	x, isX := a.(api.Number)
	y, isY := b.(api.Number)
	if !isX || !isY {
		return nil, false
	}
	switch op {
	case api.OPlus:
		return x + y, true
	case api.OMinus:
		return x - y, true
	}
	return truth(x < y), true
}

func truth(holds bool) api.Value {
	if holds {
		return api.Number(1)
	}
	return api.Number(0)
}

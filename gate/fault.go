package gate

import "barrage/api"

// fault is an error, and in which part and at which index of it; all of it is 0 if nothing is wrong.
type fault struct {
	part, at int
	e        api.Errno
}

// first returns the first fault that a check finds, or no fault; later checks may rely on what the ones before them look at.
func first(checks ...func() fault) fault {
	for _, check := range checks {
		if f := check(); f.e != api.OK {
			return f
		}
	}
	return fault{}
}

// need returns a fault unless ok.
func need(ok bool, e api.Errno) fault {
	if ok {
		return fault{}
	}
	return fault{e: e}
}

// each returns the first fault that check finds for a number from 0 on and before n, at this number.
func each(n int, check func(i int) fault) fault {
	for i := range n {
		if f := check(i); f.e != api.OK {
			f.at = i
			return f
		}
	}
	return fault{}
}

// in returns the fault as one in a part.
func (f fault) in(part int) fault {
	f.part = part
	return f
}

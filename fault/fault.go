// Package fault throws what is wrong with a program's text, and catches it.
package fault

import "races/api"

// Throw ends the reading that is under way.
func Throw(e api.Errno, at int) {
	panic(&api.Fault{E: e, At: at})
}

// Catch does what it is handed, and tells the fault that was thrown meanwhile; nil, if none was.
func Catch(do func()) (caught api.Error) {
	defer func() {
		thrown := recover()
		if thrown == nil {
			return
		}
		f, ok := thrown.(*api.Fault)
		if !ok {
			// A mistake of this program must not be told as one of the text.
			panic(thrown)
		}
		caught = f
	}()
	do()
	return nil
}

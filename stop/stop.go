// Package stop ends a reading that goes wrong, from however deep within, where it began.
package stop

// stopped is of a type of its own, so that no other panic is taken for a reading's.
type stopped struct{ err error }

// With ends the reading that is under way: what Caught it answers err.
func With(err error) { panic(stopped{err}) }

// Unless ends the reading that is under way where something does not hold.
func Unless(holds bool, err error) {
	if !holds {
		With(err)
	}
}

// Caught tells with which error a reading ended, or nil if it came to its end.
func Caught(read func()) (err error) {
	defer func() {
		switch caught := recover().(type) {
		case nil:
		case stopped:
			err = caught.err
		default:
			panic(caught) // a mistake of the program: to take it for bad input would hide it
		}
	}()
	read()
	return nil
}

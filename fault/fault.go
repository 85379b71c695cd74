// Package fault: the panic by which reading stops at the first fault, and what makes an error of it.
package fault

import "flows/api"

// stop is the panic's value; it is a type of its own so that no other panic is taken for one of these.
type stop struct {
	errno api.Errno
	place int
}

// Raise stops what Catch is doing, with an error at a place.
func Raise(errno api.Errno, place int) { panic(stop{errno, place}) }

// Catch does what it is given, and tells the error with which that stopped, if it did.
func Catch(do func()) (err error) {
	defer func() {
		caught := recover()
		if caught == nil {
			return
		}
		s, ok := caught.(stop)
		if !ok {
			// Some other panic is a mistake of the program: to swallow it would answer as if all were well.
			panic(caught)
		}
		err = &api.At{Err: s.errno, Place: s.place}
	}()
	do()
	return nil
}

// Package giveup: how a layer leaves what it does, however deep it is, at the first thing that is wrong.
package giveup

import "guardrail/api"

// fault is what At panics with: a type of its own, so that no other panic is taken for it.
type fault struct{ api.Fault }

// At gives up, for this error at this byte of the text.
func At(err api.Errno, at int) {
	panic(fault{api.Fault{Err: err, At: at}})
}

// Fault does something, and answers what it gave up for.
func Fault(do func()) (why api.Fault) {
	defer func() {
		r := recover()
		if f, ok := r.(fault); ok {
			why = f.Fault
		} else if r != nil {
			panic(r)
		}
	}()
	do()
	return api.Fault{}
}

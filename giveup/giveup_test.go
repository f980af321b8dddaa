package giveup

import (
	"testing"

	"guardrail/api"
)

// What is done to its end has no fault; what gives up has the one that it gave up for, and is left at once.
func TestFault(t *testing.T) {
	if got := Fault(func() {}); got != (api.Fault{}) {
		t.Errorf("of nothing: %v", got)
	}
	want := api.Fault{Err: api.ErrType, At: 7}
	got := Fault(func() {
		At(api.ErrType, 7)
		At(api.ErrForm, 8)
	})
	if got != want {
		t.Errorf("%v, and must be %v", got, want)
	}
}

// Another panic is none of these.
func TestOtherPanic(t *testing.T) {
	defer func() {
		if recover() != "other" {
			t.Errorf("the panic was lost")
		}
	}()
	Fault(func() { panic("other") })
}

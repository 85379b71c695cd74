package fault

import (
	"errors"
	"testing"

	"flows/api"
)

func TestCatchTellsTheFirstFault(t *testing.T) {
	err := Catch(func() {
		Raise(api.ErrName, 7)
		Raise(api.ErrLimit, 8)
	})
	if e, place := api.Tell(err); e != api.ErrName || place != 7 {
		t.Errorf("got %v", err)
	}
	if !errors.Is(err, api.ErrName) || errors.Is(err, api.ErrLimit) {
		t.Errorf("errors.Is holds for another one than ErrName: %v", err)
	}
}

func TestCatchOfNoFault(t *testing.T) {
	done := false
	if err := Catch(func() { done = true }); err != nil || !done {
		t.Errorf("got %v, done: %v", err, done)
	}
}

func TestCatchLetsOtherPanicsPass(t *testing.T) {
	defer func() {
		if recover() != "other" {
			t.Errorf("the other panic was swallowed")
		}
	}()
	Catch(func() { panic("other") })
}

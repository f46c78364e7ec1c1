package stop

import (
	"errors"
	"testing"
)

func deep(n int, err error) {
	if n == 0 {
		With(err)
	}
	deep(n-1, err)
}

func TestCaughtTellsTheError(t *testing.T) {
	want := errors.New("x")
	if err := Caught(func() { deep(100, want) }); err != want {
		t.Errorf("got %v, want %v", err, want)
	}
	ended := false
	if err := Caught(func() { ended = true }); err != nil || !ended {
		t.Errorf("a reading that does not stop: %v, ended: %v", err, ended)
	}
}

func TestUnless(t *testing.T) {
	want := errors.New("x")
	for _, holds := range []bool{true, false} {
		ended := false
		err := Caught(func() {
			Unless(holds, want)
			ended = true
		})
		if ended != holds || (err == nil) != holds || !holds && err != want {
			t.Errorf("holds: %v, ended: %v, %v", holds, ended, err)
		}
	}
}

func TestCaughtByTheNearest(t *testing.T) {
	inner, outer := errors.New("inner"), errors.New("outer")
	err := Caught(func() {
		if err := Caught(func() { With(inner) }); err != inner {
			t.Errorf("inside: got %v", err)
		}
		With(outer)
	})
	if err != outer {
		t.Errorf("outside: got %v", err)
	}
}

func TestOtherPanicsGoOn(t *testing.T) {
	defer func() {
		if got := recover(); got != "mistake" {
			t.Errorf("got %v", got)
		}
	}()
	Caught(func() { panic("mistake") })
}

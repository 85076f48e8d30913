package proof

import (
	"errors"
	"testing"

	"notary/api"
)

// thrownBy answers what f panics with, or nil.
func thrownBy(f func()) (thrown any) {
	defer func() { thrown = recover() }()
	f()
	return nil
}

// A decoder's own panic is told by its type alone: a panic with an error's bare number is none.
func TestP1_OtherPanicsGoOn(t *testing.T) {
	for e := api.ErrArg; e <= api.ErrName; e++ {
		if got := reason(giveUp{e}); got != e {
			t.Errorf("reason of %d is %d", e, got)
		}
		if thrown := thrownBy(func() { demand(e) }); thrown != (giveUp{e}) {
			t.Errorf("demand(%d) gives up by %v", e, thrown)
		}
	}
	if thrown := thrownBy(func() { demand(api.OK) }); thrown != nil {
		t.Errorf("demand(OK) gives up by %v", thrown)
	}
	for _, other := range []any{errors.New("a fault of the program"), "a text", api.ErrForm} {
		if thrown := thrownBy(func() { reason(other) }); thrown != other {
			t.Errorf("of %v goes on %v", other, thrown)
		}
	}
}

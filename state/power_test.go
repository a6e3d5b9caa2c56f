package state_test

import (
	"testing"

	"imprimatur/api"
	"imprimatur/disk"
	"imprimatur/state"
	"imprimatur/store"
)

// W2: at whatever stroke the power goes while a state is put into a store, what is booted is the old state or the new one; and what was begun can be ended.
func TestThePowerGoes(t *testing.T) {
	old, next := stateOf(1), stateOf(2)
	before, after := written(t, old), written(t, next)
	const n = 100 // sectors of an area
	for _, kept := range []bool{false, true} {
		ended, olds, news := false, 0, 0
		for stroke := 0; !ended; stroke++ {
			d := must(disk.New(nil, 2*n))
			s := must(store.Open(d, 0, n))
			done(t, s.Put(before))
			choice := make([]bool, api.MaxCut)
			for i := range choice {
				choice[i] = kept
			}
			done(t, d.Set(stroke, choice))
			e := s.Put(after)
			d.Lose(choice)
			d.Start()
			ended = e == api.OK
			is, trust, e := state.Boot(pin(), must(s.Get()))
			done(t, e)
			switch {
			case !ended && told(is) == told(old) && told(trust) == told(trustOf(1, old)):
				olds++
			case told(is) == told(next) && told(trust) == told(trustOf(2, next)):
				news++
			default:
				t.Fatalf("the power goes at %d: neither the old state nor the new one", stroke)
			}
			done(t, s.Put(after))
			boots(t, "put anew", pin(), must(s.Get()), next, trustOf(2, next))
		}
		if olds == 0 || news == 0 {
			t.Errorf("the old state %d times, the new one %d times", olds, news)
		}
	}
}

package state

import (
	"imprimatur/api"
	"imprimatur/meta"
	"imprimatur/wire"
)

// limits are those of a state's bytes.
func limits() wire.Limits {
	return wire.Limits{Bytes: 1 << 17, Deep: 4, Many: 1 << 8, Each: api.MaxMeta}
}

// Write is a state's bytes.
func Write(s State) ([]byte, api.Errno) {
	records, ok := recordsOf(s)
	if !ok || !bounded(s) {
		return nil, api.ErrState
	}
	b, e := wire.Write(valueOf(s, records), limits())
	if e != api.OK { // sixteen roots may be more than there is room for
		return nil, api.ErrLong
	}
	return b, api.OK
}

// recordsOf are the bytes of a state's records, and whether each is none or right.
func recordsOf(s State) ([3][]byte, bool) {
	stamp, timed := recordOf(s.Time, noTime(s.Time), meta.WriteTimestamp)
	snap, snapped := recordOf(s.Snap, noSnap(s.Snap), meta.WriteSnapshot)
	aim, aimed := recordOf(s.Aim, noAim(s.Aim), meta.WriteTargets)
	return [3][]byte{stamp, snap, aim}, timed && snapped && aimed
}

// recordOf are a record's bytes, no byte for none.
func recordOf[R any](r R, none bool, write func(R) ([]byte, api.Errno)) ([]byte, bool) {
	if none {
		return nil, true
	}
	b, e := write(r)
	return b, e == api.OK
}

// valueOf is the value that a right state is written as, with its records' bytes.
func valueOf(s State, records [3][]byte) api.Node {
	return wire.List(
		pieces(s.Roots...),
		wire.Bytes(records[0]), wire.Bytes(records[1]), wire.Bytes(records[2]),
		wire.Num(uint64(s.Clock)), wire.Num(uint64(s.Active)),
		wire.List(slotValue(s.Slots[0]), slotValue(s.Slots[1])),
	)
}

func slotValue(s Slot) api.Node {
	return wire.List(wire.Num(uint64(s.Roots)), wire.Bytes(s.Stamp), wire.Bytes(s.Snap), wire.Bytes(s.Aim), wire.Bytes(s.Map))
}

// pieces is the list of bytes, piece by piece.
func pieces(l ...[]byte) api.Node {
	var made []api.Node
	for _, b := range l {
		made = append(made, wire.Bytes(b))
	}
	return wire.List(made...)
}

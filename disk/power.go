package disk

import (
	"slices"

	"imprimatur/api"
)

// cut is how a disk is to lose its power.
type cut struct {
	set    bool
	wait   int // strokes ahead of the one at which it goes
	choice []bool
}

// Set sets the stroke at which the power goes.
func (d *Disk) Set(strokes int, choice []bool) api.Errno {
	if d.none() {
		return api.ErrNil
	}
	if strokes < 0 {
		return api.ErrArg
	}
	if len(choice) > api.MaxCut {
		return api.ErrLong
	}
	d.cut = cut{set: true, wait: strokes, choice: slices.Clone(choice)}
	return api.OK
}

// stroke counts a stroke; if the power goes at it, that is its error.
func (d *Disk) stroke() api.Errno {
	d.strokes++
	switch {
	case !d.cut.set:
		return api.OK
	case d.cut.wait > 0:
		d.cut.wait--
		return api.OK
	}
	d.Lose(d.cut.choice)
	return api.ErrDown
}

// Lose loses the power.
func (d *Disk) Lose(choice []bool) {
	if !d.Up() {
		return
	}
	choice = choice[:min(len(choice), api.MaxCut)]
	d.settle(func(i int) bool { return i < len(choice) && choice[i] })
	d.up = false
}

// Start starts it anew.
func (d *Disk) Start() {
	if d.none() {
		return
	}
	d.up = true
	d.cut = cut{}
}

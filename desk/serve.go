package desk

import (
	"imprimatur/api"
	"imprimatur/bpe"
	"imprimatur/disk"
	"imprimatur/press"
	"imprimatur/sha2"
	"imprimatur/updater"
	"imprimatur/vocab"
)

// tell tells the time.
func (d *Desk) tell(clock int64) api.Errno {
	d.clock = clock
	return api.OK
}

// place places another disk on the desk.
func (d *Desk) place(sectors int) api.Errno {
	x, e := disk.New(nil, sectors)
	if e == api.OK {
		d.disk, d.updater = x, nil
	}
	return e
}

// boot starts the disk, and boots an updater on it: on a copy of the disk, as one that is refused must not even have started it.
func (d *Desk) boot(c updater.Config) api.Errno {
	if d.disk == nil || d.pin == nil {
		return api.ErrNone
	}
	x := d.disk.Copy()
	x.Start()
	c.Pin = d.pin
	u, e := updater.Boot(x, c)
	if e == api.OK {
		d.disk, d.updater = x, u
	}
	return e
}

// cut sets at which stroke the power goes.
func (d *Desk) cut(strokes int, choice []bool) api.Errno {
	if d.disk == nil {
		return api.ErrNone
	}
	return d.disk.Set(strokes, choice)
}

// lose lets the power go.
func (d *Desk) lose(choice []bool) api.Errno {
	if d.disk == nil {
		return api.ErrNone
	}
	d.disk.Lose(choice)
	return api.OK
}

// begin begins an update.
func (d *Desk) begin() api.Errno {
	return d.updater.Begin(d.clock)
}

// send sends the updater a reply.
func (d *Desk) send(reply []byte) api.Errno {
	return d.updater.Step(reply, d.clock)
}

// step sends the updater what the press answers to what it wants.
func (d *Desk) step() api.Errno {
	if d.edition == nil {
		return api.ErrNone
	}
	reply, e := press.Answer(*d.edition, d.roots, d.updater.Want())
	if e != api.OK {
		return e
	}
	return d.send(reply)
}

// fetch steps up to so many times, and tells how often it did.
func (d *Desk) fetch(times int64) (string, api.Errno) {
	if d.edition == nil { // it is asked for ahead of the steps, of which there may be none
		return "", api.ErrNone
	}
	n := int64(0)
	for n < times && d.updater.Want().Kind != 0 {
		if e := d.step(); e != api.OK {
			return "", e
		}
		n++
	}
	return told("steps", n), api.OK
}

// want tells what the updater wants.
func (d *Desk) want() (string, api.Errno) {
	w := d.updater.Want()
	return told("want", int64(w.Kind), w.Version, int64(w.Place)), api.OK
}

// status tells where the updater is.
func (d *Desk) status() (string, api.Errno) {
	s, e := d.updater.Status(d.clock)
	age := " fresh "
	if s.Stale {
		age = " stale "
	}
	return told("versions", s.Versions[:]...) + " " + told("active", s.Active) + age + told("clock", s.Clock), e
}

// active tells of the bundle that is served.
func (d *Desk) active() (string, api.Errno) {
	b, e := d.updater.Active()
	if e != api.OK {
		return "", e
	}
	digest, e := sha2.Sum256(b)
	return told("bytes", int64(len(b))) + " sha256 " + hex(digest), e
}

// table is that of the vocabulary that is served.
func (d *Desk) table() (*vocab.Table, api.Errno) {
	v, e := d.updater.Vocab()
	if e != api.OK {
		return nil, e
	}
	return vocab.Build(v)
}

// encode cuts a text into tokens.
func (d *Desk) encode(text []byte) (string, api.Errno) {
	t, e := d.table()
	if e != api.OK {
		return "", e
	}
	ids, e := bpe.Encode(t, text)
	return told("tokens", ids...), e
}

// decode puts tokens together to a text.
func (d *Desk) decode(ids ...int64) (string, api.Errno) {
	t, e := d.table()
	if e != api.OK {
		return "", e
	}
	text, e := bpe.Decode(t, ids)
	return "text " + hex(text), e
}

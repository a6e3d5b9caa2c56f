package desk

import (
	"imprimatur/api"
	"imprimatur/press"
	"imprimatur/updater"
)

const (
	maxScore = 1 << 40 // of a token, in parts of which 8 are 1
	maxSteps = 200     // of one line
)

// act is what a line does on a desk, and answers if it is not refused.
type act func(d *Desk) (string, api.Errno)

// does is an act that has nothing to tell.
func does(what func(d *Desk) api.Errno) act {
	return func(d *Desk) (string, api.Errno) {
		return "ok", what(d)
	}
}

// actOf is the act of a line, if there is one by its first word.
func actOf(p *parts) act {
	word := p.word()
	if a := ofPress(word, p); a != nil {
		return a
	}
	if a := ofDisk(word, p); a != nil {
		return a
	}
	if a := ofUpdater(word, p); a != nil {
		return booted(a)
	}
	return nil
}

// ofPress is the act of a line that tells what is published.
func ofPress(word string, p *parts) act {
	switch word {
	case "keys":
		role, need, seeds := p.from(0, 3), p.number(), p.seeds()
		return does(func(d *Desk) api.Errno { return d.hand(role, need, seeds...) })
	case "root":
		version, expires, signers := p.number(), p.number(), p.seeds()
		return does(func(d *Desk) api.Errno { return d.root(version, expires, signers...) })
	case "letters":
		return does(func(d *Desk) api.Errno { return d.put(letters()...) })
	case "token":
		t := api.Token{Bytes: p.bytes(), Score: float64(p.from(-maxScore, maxScore)) / 8}
		return does(func(d *Desk) api.Errno { return d.put(t) })
	case "special":
		t := api.Token{Bytes: p.bytes(), Special: true}
		return does(func(d *Desk) api.Errno { return d.put(t) })
	case "merge":
		m := api.Merge{A: p.number(), B: p.number(), To: p.number()}
		return does(func(d *Desk) api.Errno { return d.merge(m) })
	case "clear":
		return does((*Desk).clear)
	case "issue":
		i := press.Issue{Version: p.number(), Expires: p.number(), Chunk: p.number()}
		return does(func(d *Desk) api.Errno { return d.issue(i) })
	}
	return nil
}

// ofDisk is the act of a line that tells of what an updater is booted on, and of the time.
func ofDisk(word string, p *parts) act {
	switch word {
	case "clock":
		n := p.number()
		return does(func(d *Desk) api.Errno { return d.tell(n) })
	case "disk":
		n := int(p.number())
		return does(func(d *Desk) api.Errno { return d.place(n) })
	case "boot":
		c := updater.Config{Limit: int(p.number()), Area: int(p.number()), Room: int(p.number())}
		return does(func(d *Desk) api.Errno { return d.boot(c) })
	case "cut":
		strokes, choice := int(p.number()), p.bits()
		return does(func(d *Desk) api.Errno { return d.cut(strokes, choice) })
	case "lose":
		choice := p.bits()
		return does(func(d *Desk) api.Errno { return d.lose(choice) })
	}
	return nil
}

// ofUpdater is the act of a line that needs an updater.
func ofUpdater(word string, p *parts) act {
	switch word {
	case "begin":
		return does((*Desk).begin)
	case "send":
		reply := p.bytes()
		return does(func(d *Desk) api.Errno { return d.send(reply) })
	case "step":
		return does((*Desk).step)
	case "fetch":
		times := p.from(0, maxSteps)
		return func(d *Desk) (string, api.Errno) { return d.fetch(times) }
	case "want":
		return (*Desk).want
	case "status":
		return (*Desk).status
	case "active":
		return (*Desk).active
	case "encode":
		text := p.bytes()
		return func(d *Desk) (string, api.Errno) { return d.encode(text) }
	case "decode":
		ids := p.numbers()
		return func(d *Desk) (string, api.Errno) { return d.decode(ids...) }
	}
	return nil
}

// booted is an act that is refused without an updater.
func booted(a act) act {
	return func(d *Desk) (string, api.Errno) {
		if d.updater == nil {
			return "", api.ErrNone
		}
		return a(d)
	}
}

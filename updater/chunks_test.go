package updater_test

import (
	"bytes"
	"math/rand"
	"slices"
	"testing"

	"imprimatur/api"
	"imprimatur/merkle"
	"imprimatur/state"
	"imprimatur/vocab"
	"imprimatur/wire"
)

// P15.2: chunk by chunk, in order, until the slot holds the bundle.
func TestChunks(t *testing.T) {
	b := bundleOf('q', 6)
	for _, chunk := range []int{64, 100, 1000, 1024} {
		m := mirror{nil, edit(spec{1, 5, lasts, chunk, b})}
		u, d := at(t, m, aChunk)
		s := stored(t, d)
		for i := range m.count() {
			wants(t, "a chunk", u, aChunk, 5, i)
			servesNothing(t, "a chunk", u)
			if is := d.Bytes()[64*2*area:]; !bytes.Equal(is[:i*chunk], b[:i*chunk]) || !bytes.Equal(is[i*chunk:], make([]byte, len(is)-i*chunk)) {
				t.Fatalf("%d chunks came: the slot's bytes are others", i)
			}
			done(t, u.Step(m.reply(i), int64(i)))
			s.Clock = int64(i)
			s.Slots[0].Map = must(merkle.Put(s.Slots[0].Map, m.count(), i))
			if i < m.count()-1 {
				holding(t, "a chunk", d, s)
			}
		}
		wants(t, "all chunks", u, nothing, 0, 0)
		s.Active = 1
		holding(t, "all chunks", d, s)
		serves(t, "all chunks", u, m.edition, 0)
		serves(t, "booted", boot(t, d), m.edition, 0)
	}
}

// P15.2: one edition behind the other; they go into the slots by turns, and each is served until the next one is whole.
func TestEditions(t *testing.T) {
	d := newDisk(sectors)
	u := boot(t, d)
	var last *edition
	for version := int64(1); version < 7; version++ {
		e := usual(1, version)
		upTo(t, u, mirror{nil, e}, aChunk)
		for u.Want().Kind != nothing {
			if last != nil {
				serves(t, "the one ahead of it", u, last, 0)
			}
			step(t, u, mirror{nil, e}, 0)
		}
		serves(t, "fetched", u, e, 0)
		if is := stored(t, d); is.Active != 2-version%2 {
			t.Errorf("the edition %d is in the slot %d", version, is.Active)
		}
		last = e
	}
}

// P15.2: replies that are not the bytes of a chunk and a proof.
func TestChunkRepliesThatAreNone(t *testing.T) {
	m := mirror{nil, usual(1, 5)}
	good := m.reply(1)
	proof := must(merkle.Prove(m.leaves, 1))
	var nodes []api.Node
	for _, b := range proof {
		nodes = append(nodes, wire.Bytes(b))
	}
	c := wire.Bytes(m.piece(1))
	raw := func(v api.Node) []byte { return must(wire.Write(v, wire.Whole())) }
	many := func(n int) []byte {
		l := make([]api.Node, n)
		for i := range l {
			l[i] = wire.Bytes(nil)
		}
		return raw(wire.List(c, wire.List(l...)))
	}
	for what, b := range map[string][]byte{
		"no bytes":               nil,
		"a chunk alone":          m.piece(1),
		"cut off":                good[:len(good)-1],
		"more behind":            append(bytes.Clone(good), 0),
		"no list":                raw(c),
		"an empty list":          raw(wire.List()),
		"without a proof":        raw(wire.List(c)),
		"a value behind":         raw(wire.List(c, wire.List(nodes...), wire.Num(0))),
		"a value ahead":          raw(wire.List(wire.Num(0), c, wire.List(nodes...))),
		"in another order":       raw(wire.List(wire.List(nodes...), c)),
		"a number for the chunk": raw(wire.List(wire.Num(1), wire.List(nodes...))),
		"a list for the chunk":   raw(wire.List(wire.List(c), wire.List(nodes...))),
		"bytes for the proof":    raw(wire.List(c, wire.Bytes(proof[0]))),
		"a number in the proof":  raw(wire.List(c, wire.List(append(slices.Clone(nodes), wire.Num(0))...))),
		"a list in the proof":    raw(wire.List(c, wire.List(append(slices.Clone(nodes), wire.List())...))),
		"a piece too deep":       raw(wire.List(c, wire.List(wire.List(nodes...)))),
		"a value too many":       many(62),
		"far too many":           many(500),
		"too long a chunk":       raw(wire.List(wire.Bytes(make([]byte, api.MaxChunk+1)), wire.List(nodes...))),
		"too long a piece":       raw(wire.List(c, wire.List(wire.Bytes(make([]byte, api.MaxChunk+1))))),
		"a proof outside":        raw(wire.List(append([]api.Node{c}, nodes...)...)),
	} {
		chunkFails(t, what, b, api.ErrMeta)
	}
	// Within the limits it is a reply, though a wrong one.
	chunkFails(t, "as many values as there may be", many(61), api.ErrProof)
	chunkFails(t, "as long a chunk as there may be", raw(wire.List(wire.Bytes(make([]byte, api.MaxChunk)), wire.List(nodes...))), api.ErrSize)
	chunkFails(t, "more bytes than in a record", chunkReply(m.piece(1), slices.Repeat([][]byte{make([]byte, 900)}, 7)...), api.ErrProof)
	chunkFails(t, "as long a piece as there may be", raw(wire.List(c, wire.List(wire.Bytes(make([]byte, api.MaxChunk))))), api.ErrProof)
}

// chunkFails tells of a reply to the chunk 1 that does not fail so, or that is in the way of a right one.
func chunkFails(t *testing.T, what string, reply []byte, want api.Errno) {
	t.Helper()
	m := mirror{nil, usual(1, 5)}
	u, d := at(t, m, aChunk)
	step(t, u, m, 0)
	wants(t, what, u, aChunk, 5, 1)
	fails(t, what, u, d, reply, 6, want)
	if n := update(t, u, m, 0); n != 4+m.count()-1 {
		t.Errorf("%s: %d steps behind it", what, n)
	}
	serves(t, what+", behind it", u, m.edition, 0)
}

// P15.2: chunks and proofs that are others: the size counts first.
func TestChunksThatAreOthers(t *testing.T) {
	m := mirror{nil, usual(1, 5)}
	c, proof := m.piece(1), must(merkle.Prove(m.leaves, 1))
	for what, b := range map[string][]byte{
		"no bytes":           chunkReply(nil, proof...),
		"one byte":           chunkReply(c[:1], proof...),
		"a byte too few":     chunkReply(c[:len(c)-1], proof...),
		"a byte too many":    chunkReply(append(bytes.Clone(c), 0), proof...),
		"too few, no proof":  chunkReply(c[:len(c)-1]),
		"the last chunk":     m.reply(4),
		"too many, no proof": chunkReply(make([]byte, api.MaxChunk)),
	} {
		chunkFails(t, what, b, api.ErrSize)
	}
	short := slices.Clone(proof)
	short[1] = short[1][:31]
	swapped := slices.Clone(proof)
	swapped[0], swapped[1] = swapped[1], swapped[0]
	for what, b := range map[string][]byte{
		"another chunk":                  m.reply(0),
		"another chunk, the right proof": chunkReply(m.piece(0), proof...),
		"the chunk, another one's proof": chunkReply(c, must(merkle.Prove(m.leaves, 0))...),
		"spoilt":                         chunkReply(spoilt(c), proof...),
		"a proof that is spoilt":         chunkReply(c, append([][]byte{spoilt(proof[0])}, proof[1:]...)...),
		"no proof":                       chunkReply(c),
		"a piece too few":                chunkReply(c, proof[:2]...),
		"a piece too many":               chunkReply(c, append(slices.Clone(proof), proof[0])...),
		"a short piece":                  chunkReply(c, short...),
		"another order":                  chunkReply(c, swapped...),
		"another edition's":              usual(1, 6).reply(1),
	} {
		chunkFails(t, what, b, api.ErrProof)
	}
}

// P15.2: the last chunk has as many bytes as are left.
func TestTheLastChunk(t *testing.T) {
	b := bundleOf('x', 2)
	divisor := 64 // the last chunk is as long as all others
	for len(b)%divisor != 0 {
		divisor++
	}
	for _, chunk := range []int{64, 1000, divisor, divisor + 1} {
		m := mirror{nil, edit(spec{1, 5, lasts, chunk, b})}
		u, d := at(t, m, aChunk)
		for u.Want().Place < m.count()-1 {
			step(t, u, m, 0)
		}
		last := m.piece(m.count() - 1)
		proof := must(merkle.Prove(m.leaves, m.count()-1))
		fails(t, "with a byte more", u, d, chunkReply(append(bytes.Clone(last), 0), proof...), 0, api.ErrSize)
		update(t, u, m, 0)
		serves(t, "the last chunk", u, m.edition, 0)
	}
}

// P15.2: what is whole, but no vocabulary, is not served, and the slot is empty then.
func TestBundlesThatAreNoVocabulary(t *testing.T) {
	x := usual(1, 4)
	v := learnt('v', 4)
	v.Tokens[258].Score = 0
	letter := bundleOf('v', 0)
	for what, c := range map[string]struct {
		bundle []byte
		want   api.Errno
	}{
		"bytes of chance":      {bytes.Repeat([]byte("no vocabulary"), 300), api.ErrForm},
		"one byte":             {[]byte{3}, api.ErrForm},
		"a vocabulary and one": {append(bytes.Clone(letter), 0), api.ErrForm},
		"scores that rise":     {must(vocab.Write(v)), api.ErrRank},
	} {
		for _, active := range []bool{false, true} {
			d := newDisk(sectors)
			u := boot(t, d)
			slot := 0
			if active {
				update(t, u, mirror{nil, x}, 0)
				slot = 1
			}
			m := mirror{nil, edit(spec{1, 5, lasts, 64, c.bundle})}
			upTo(t, u, m, aChunk)
			for u.Want().Place < m.count()-1 {
				step(t, u, m, 0)
			}
			want := stored(t, d)
			want.Clock = 3
			want.Slots[slot] = state.Slot{}
			if e := u.Step(m.reply(m.count()-1), 3); e != c.want {
				t.Errorf("%s: error %d, not %d", what, e, c.want)
			}
			wants(t, what, u, nothing, 0, 0)
			holding(t, what, d, want)
			if active {
				serves(t, what, u, x, 0)
			} else {
				servesNothing(t, what, u)
			}
			update(t, u, mirror{nil, usual(1, 6)}, 0)
			serves(t, what+", the next edition", u, usual(1, 6), 0)
		}
	}
}

// P15.2, W6: chunks that were there, and are others now, are fetched again once the slot was found not to hold its bundle.
func TestChunksThatAreLost(t *testing.T) {
	r := rand.New(rand.NewSource(1))
	m := mirror{nil, usual(1, 5)}
	for range 6 {
		d := newDisk(sectors)
		u := boot(t, d)
		upTo(t, u, m, aChunk)
		for range 3 {
			step(t, u, m, 0)
		}
		b := make([]byte, api.Sector)
		r.Read(b)
		done(t, d.Write(2*area+r.Intn(3000/64), b))
		done(t, d.Flush())
		var e api.Errno
		n := 0
		for ; e == api.OK && u.Want().Kind != nothing; n++ {
			e = u.Step(m.answer(u.Want()), 0)
		}
		if e != api.ErrHash || n != 2 {
			t.Errorf("a chunk is lost: error %d behind %d steps", e, n)
		}
		servesNothing(t, "a chunk is lost", u)
		if s := stored(t, d); told(s.Slots[0]) != told(state.Slot{}) {
			t.Errorf("a chunk is lost: %s", brief(s))
		}
		if n := update(t, u, m, 0); n != 4+m.count() {
			t.Errorf("%d steps", n)
		}
		serves(t, "one update more", u, m.edition, 0)
	}
}

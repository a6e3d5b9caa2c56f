package meta_test

import (
	"bytes"
	"math"
	"math/rand"
	"testing"

	"imprimatur/api"
	"imprimatur/meta"
)

// thereAndBack tells of a kind whose records, of chance, are not read as they were written.
func thereAndBack[R any](t *testing.T, k kind[R]) {
	t.Helper()
	r := rand.New(rand.NewSource(1))
	for range 400 {
		x := k.some(r)
		k.right(t, "one of chance", x, k.bytes(x))
		if t.Failed() {
			return
		}
	}
}

// P9.1, P9.3
func TestThereAndBack(t *testing.T) {
	thereAndBack(t, roots)
	thereAndBack(t, timestamps)
	thereAndBack(t, snapshots)
	thereAndBack(t, aims)
	thereAndBack(t, seals)
}

// cut tells of a kind of which bytes that are cut off, or have more behind, are read.
func cut[R any](t *testing.T, k kind[R]) {
	t.Helper()
	r := rand.New(rand.NewSource(2))
	for range 4 {
		b := k.bytes(k.some(r))
		for n := range b {
			k.refused(t, "cut off", b[:n])
			k.refused(t, "begun later", b[n+1:])
		}
		for _, more := range [][]byte{{0}, {1}, {3}, {1, 0}, {2, 0}, {3, 0}, b, make([]byte, 100)} {
			k.refused(t, "with more behind", append(bytes.Clone(b), more...))
		}
	}
}

// P9.6
func TestCutOffOrMoreBehind(t *testing.T) {
	cut(t, roots)
	cut(t, timestamps)
	cut(t, snapshots)
	cut(t, aims)
	cut(t, seals)
}

// changed tells of a kind of which other bytes are read as what is written otherwise, or is refused with something beside.
func changed[R any](t *testing.T, k kind[R]) {
	t.Helper()
	r := rand.New(rand.NewSource(3))
	for range 3000 {
		b := k.bytes(k.some(r))
		for range 1 + r.Intn(3) {
			b[r.Intn(min(len(b), 1+r.Intn(200)))] = byte(r.Intn(256) >> r.Intn(8))
		}
		x, e := k.read(b)
		if e != api.OK {
			k.refused(t, "bytes of chance", b)
			continue
		}
		if c, e := k.write(x); e != api.OK || !bytes.Equal(b, c) {
			t.Fatalf("%s: what is read is written as other bytes, error %d", k.name, e)
		}
	}
}

// P9.3, P1
func TestChangedBytes(t *testing.T) {
	changed(t, roots)
	changed(t, timestamps)
	changed(t, snapshots)
	changed(t, aims)
	changed(t, seals)
}

// P1: bytes of chance, and those of values of which many are nested.
func TestEveryReadEnds(t *testing.T) {
	r := rand.New(rand.NewSource(4))
	for i := range 3000 {
		b := someBytes(r, r.Intn(60))
		if i%2 == 0 {
			for j := range b {
				b[j] %= 4
			}
		}
		roots.refused(t, "bytes of chance", b)
		timestamps.refused(t, "bytes of chance", b)
		snapshots.refused(t, "bytes of chance", b)
		aims.refused(t, "bytes of chance", b)
		seals.refused(t, "bytes of chance", b)
	}
	for _, n := range []int{7, 8, 9, 100, 4000, 5000, 1 << 20} {
		b := bytes.Repeat([]byte{3, 1}, n)
		roots.refused(t, "lists in lists", b)
		roots.refused(t, "lists in lists", append(b, 1, 1))
		seals.refused(t, "lists in lists", append(b, 1, 1))
	}
	for _, b := range [][]byte{{3, 199, 255, 255, 255, 255, 255, 255, 255, 255}, {2, 199, 255, 255, 255, 255, 255, 255, 255, 255}, {3, 193, 4, 0}} {
		roots.refused(t, "more told than there is", b)
		seals.refused(t, "more told than there is", b)
	}
}

// P1: records of chance, most of them not right.
func TestEveryWriteEnds(t *testing.T) {
	r := rand.New(rand.NewSource(6))
	number := func() int64 {
		return []int64{0, 1, 2, 16, 64, 1024, -1, math.MinInt64, math.MaxInt64, most, most + 1}[r.Intn(11)]
	}
	piece := func() []byte {
		return make([]byte, []int{0, 1, 31, 32, 32, 32, 33, 63, 64, 64, 65, 10000}[r.Intn(12)])
	}
	for range 3000 {
		ref := api.Ref{Version: number(), Size: number(), Hash: piece()}
		x := api.Root{Version: number(), Expires: number(), Roles: make([]api.Role, r.Intn(6))}
		for i := range x.Roles {
			x.Roles[i] = api.Role{Keys: make([][]byte, r.Intn(18)), Need: number()}
		}
		s := api.Signed{Kind: number(), Body: piece(), Sigs: make([]api.Sig, r.Intn(40))}
		for i := range s.Sigs {
			s.Sigs[i] = api.Sig{Key: piece(), Sig: piece()}
		}
		roots.wrong(t, "one of chance", x)
		ends(t, timestamps, api.Timestamp{Version: number(), Expires: number(), Snapshot: ref})
		ends(t, snapshots, api.Snapshot{Version: number(), Expires: number(), Targets: ref})
		ends(t, aims, api.Targets{Version: number(), Expires: number(), Size: number(), Chunk: number(), Root: piece()})
		ends(t, seals, s)
	}
}

// ends tells of a record that is neither right nor refused.
func ends[R any](t *testing.T, k kind[R], r R) {
	t.Helper()
	b, e := k.write(r)
	if e == api.OK {
		k.right(t, "one of chance", r, b)
	} else if e != api.ErrMeta && e != api.ErrLong || len(b) != 0 {
		t.Errorf("Write%s: %v and error %d", k.name, b, e)
	}
}

// alone clears the whole room of bytes that were answered, but for themselves: bytes beside them that share it are others then.
func alone(b []byte) {
	own := bytes.Clone(b)
	clear(b[:cap(b)])
	copy(b, own)
}

// Rule 3: what is handed in is neither changed nor kept.
func TestWhatIsHandedInStays(t *testing.T) {
	r := rand.New(rand.NewSource(5))
	root, stamp, signed := someRoot(r), someTimestamp(r), someSigned(r)
	wantRoot, wantStamp, wantSigned := rootBytes(root), timestampBytes(stamp), signedBytes(signed)
	meta.WriteRoot(root)
	meta.WriteTimestamp(stamp)
	meta.WriteSigned(signed)
	if !bytes.Equal(rootBytes(root), wantRoot) || !bytes.Equal(timestampBytes(stamp), wantStamp) || !bytes.Equal(signedBytes(signed), wantSigned) {
		t.Error("what is written is changed")
	}
	b := bytes.Clone(wantSigned)
	s, _ := meta.ReadSigned(b)
	if !bytes.Equal(b, wantSigned) {
		t.Error("what is read is changed")
	}
	clear(b)
	if !sameSigned(s, signed) {
		t.Error("a Signed keeps the bytes that it was read from")
	}
	body, key := []byte("abc"), seed(1)
	sealed, _ := meta.Seal(1, body, key)
	m, _ := meta.Message(1, body)
	ref, _ := meta.RefOf(1, body)
	wantSealed, wantMessage, wantRef := bytes.Clone(sealed), bytes.Clone(m), refBytes(ref)
	if string(body) != "abc" || !bytes.Equal(key, seed(1)) {
		t.Error("what is sealed is changed")
	}
	clear(body)
	clear(key)
	if !bytes.Equal(sealed, wantSealed) || !bytes.Equal(m, wantMessage) || !bytes.Equal(refBytes(ref), wantRef) {
		t.Error("what is sealed is kept")
	}
}

// Rule 3: no part of what is answered is shared.
func TestAnswersShareNothing(t *testing.T) {
	r := rand.New(rand.NewSource(7))
	root, signed := someRoot(r), someSigned(r)
	x, _ := meta.ReadRoot(rootBytes(root))
	for _, role := range x.Roles {
		clear(role.Keys[len(role.Keys):cap(role.Keys)])
		for _, key := range role.Keys {
			alone(key)
			if !sameRoot(x, root) {
				t.Fatal("parts of a root share memory")
			}
		}
	}
	s, _ := meta.ReadSigned(signedBytes(signed))
	parts := [][]byte{s.Body}
	for _, x := range s.Sigs {
		parts = append(parts, x.Key, x.Sig)
	}
	for _, b := range parts {
		alone(b)
		if !sameSigned(s, signed) {
			t.Fatal("parts of a Signed share memory")
		}
	}
	b, _ := meta.WriteSigned(signed)
	clear(b)
	if again, _ := meta.WriteSigned(signed); !bytes.Equal(again, signedBytes(signed)) {
		t.Error("what is written is handed out twice")
	}
}

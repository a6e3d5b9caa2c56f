package meta_test

import (
	"bytes"
	"crypto/sha256"
	"math"
	"testing"

	"imprimatur/api"
	"imprimatur/ed"
	"imprimatur/meta"
)

// messageOf is a message, as the document tells it.
func messageOf(kind int64, body []byte) []byte {
	return list(piece([]byte("imprimatur")), num(uint64(kind)), piece(body))
}

// noKinds are numbers that are no kind's.
var noKinds = []int64{-1, 4, 5, 256, 1 << 32, math.MinInt64, math.MaxInt64}

// P9.2
func TestMessage(t *testing.T) {
	if b, e := meta.Message(2, []byte("ab")); e != api.OK || string(b) != "\x03\x03\x02\x0aimprimatur\x01\x02\x02\x02ab" {
		t.Errorf("Message(2, ab): %v and error %d", b, e)
	}
	for _, n := range []int{0, 1, 191, 192, 8191, 8192} {
		body := someBytes(chance, n)
		for kind := range int64(4) {
			if b, e := meta.Message(kind, body); e != api.OK || !bytes.Equal(b, messageOf(kind, body)) {
				t.Errorf("Message(%d, %d bytes): %d bytes and error %d", kind, n, len(b), e)
			}
		}
	}
	for kind := range int64(4) {
		for _, n := range []int{8193, 10000, 1 << 16, 1<<16 + 1, 1 << 20} {
			if b, e := meta.Message(kind, make([]byte, n)); e != api.ErrLong || len(b) != 0 {
				t.Errorf("Message(%d, %d bytes): %d bytes and error %d", kind, n, len(b), e)
			}
		}
	}
	for _, kind := range noKinds {
		for _, n := range []int{0, 5, 8192, 8193, 1 << 20} {
			if b, e := meta.Message(kind, make([]byte, n)); e != api.ErrArg || len(b) != 0 {
				t.Errorf("Message(%d, %d bytes): %d bytes and error %d", kind, n, len(b), e)
			}
		}
	}
}

// P9.5
func TestMessagesAreUnlike(t *testing.T) {
	bodies := [][]byte{nil, {0}, {1}, {0, 0}, {2}, []byte("imprimatur"), messageOf(0, nil), messageOf(1, []byte{1})}
	for n := range 50 {
		bodies = append(bodies, someBytes(chance, 20+n))
	}
	seen := map[string]bool{}
	for kind := range int64(4) {
		for _, body := range bodies {
			b, e := meta.Message(kind, body)
			if e != api.OK || seen[string(b)] {
				t.Errorf("Message(%d, %v): it is another one's, too, or error %d", kind, body, e)
			}
			seen[string(b)] = true
		}
	}
}

// P9.2: bytes, key by key and signature by signature.
func TestSeal(t *testing.T) {
	for kind := range int64(4) {
		for _, n := range []int{0, 1, 2, 5, 32} {
			for _, size := range []int{0, 3, 200, 4900} {
				body := someBytes(chance, size)
				want := api.Signed{Kind: kind, Body: body}
				var seeds [][]byte
				for i := range n {
					s := seed(9 * i % 7) // in no order, and some twice
					seeds = append(seeds, s)
					want.Sigs = append(want.Sigs, api.Sig{Key: keyOf(s), Sig: signatureOf(s, messageOf(kind, body))})
				}
				if b, e := meta.Seal(kind, body, seeds...); e != api.OK || !bytes.Equal(b, signedBytes(want)) {
					t.Errorf("Seal(%d, %d bytes, %d seeds): %d bytes and error %d", kind, size, n, len(b), e)
				}
			}
		}
	}
}

// W1, P9.4: what is sealed is signed by all.
func TestWhatIsSealedIsRead(t *testing.T) {
	root, e := meta.WriteRoot(someRoot(chance))
	if e != api.OK {
		t.Fatal("WriteRoot", e)
	}
	for kind := range int64(4) {
		b, e := meta.Seal(kind, root, seed(1), seed(2), seed(3))
		if e != api.OK {
			t.Fatal("Seal", e)
		}
		s, e := meta.ReadSigned(b)
		if e != api.OK || s.Kind != kind || !bytes.Equal(s.Body, root) || len(s.Sigs) != 3 {
			t.Fatalf("ReadSigned: error %d, or another Signed", e)
		}
		m, _ := meta.Message(kind, root)
		other, _ := meta.Message((kind+1)%4, root)
		for i, x := range s.Sigs {
			key, _ := ed.Key(seed(i + 1))
			if e := ed.Verify(x.Key, m, x.Sig); e != api.OK || !bytes.Equal(x.Key, key) {
				t.Errorf("the signature %d: error %d, or another key's", i, e)
			}
			if e := ed.Verify(x.Key, other, x.Sig); e != api.ErrSig {
				t.Errorf("the signature %d of another kind: error %d", i, e)
			}
		}
	}
}

// P9.2: the first error is told first.
func TestSealRefuses(t *testing.T) {
	some := func(n int) (l [][]byte) {
		for i := range n {
			l = append(l, seed(i))
		}
		return l
	}
	for _, c := range []struct {
		name  string
		kind  int64
		size  int
		seeds [][]byte
		want  api.Errno
	}{
		{"33 seeds", 0, 3, some(33), api.ErrLong},
		{"33 seeds and no kind", 4, 3, some(33), api.ErrArg},
		{"33 seeds, the last one too short", 0, 3, append(some(32), make([]byte, 31)), api.ErrArg},
		{"300 seeds, the last one too long", 0, 3, append(some(299), make([]byte, 33)), api.ErrArg},
		{"the body too long for a message", 1, 8193, some(1), api.ErrLong},
		{"the body too long for a message, no seeds", 1, 8193, nil, api.ErrLong},
		{"the body too long for a message, and no kind", -1, 8193, some(1), api.ErrArg},
		{"the body too long for a message, and no seed", 1, 8193, [][]byte{nil}, api.ErrArg},
		{"the body too long for a Signed", 1, 8192, nil, api.ErrLong},
		{"the body far too long", 1, 1 << 20, nil, api.ErrLong},
	} {
		if b, e := meta.Seal(c.kind, make([]byte, c.size), c.seeds...); e != c.want || len(b) != 0 {
			t.Errorf("Seal, %s: %d bytes and error %d, not %d", c.name, len(b), e, c.want)
		}
	}
	for _, kind := range noKinds {
		if b, e := meta.Seal(kind, []byte("abc"), seed(1)); e != api.ErrArg || len(b) != 0 {
			t.Errorf("Seal(%d): %d bytes and error %d", kind, len(b), e)
		}
	}
	for _, n := range []int{0, 1, 31, 33, 64} {
		for i := range 3 {
			seeds := some(3)
			seeds[i] = make([]byte, n)
			if b, e := meta.Seal(1, []byte("abc"), seeds...); e != api.ErrArg || len(b) != 0 {
				t.Errorf("Seal with a seed of %d bytes: %d bytes and error %d", n, len(b), e)
			}
		}
	}
}

// P9.2: of the bytes of a Signed that are just within the limits, and one more.
func TestSealLimits(t *testing.T) {
	for _, n := range []int{0, 1, 32} {
		var seeds [][]byte
		for i := range n {
			seeds = append(seeds, seed(i))
		}
		b, _ := meta.Seal(3, make([]byte, 4000), seeds...)
		room := 4000 + api.MaxMeta - len(b)
		if b, e := meta.Seal(3, make([]byte, room), seeds...); e != api.OK || len(b) != api.MaxMeta {
			t.Errorf("Seal(%d bytes, %d seeds): %d bytes and error %d", room, n, len(b), e)
		}
		if b, e := meta.Seal(3, make([]byte, room+1), seeds...); e != api.ErrLong || len(b) != 0 {
			t.Errorf("Seal(%d bytes, %d seeds): %d bytes and error %d", room+1, n, len(b), e)
		}
	}
}

// P9.2
func TestRefOf(t *testing.T) {
	for _, n := range []int{0, 1, 64, 8193, api.MaxHash} {
		b := someBytes(chance, n)
		d := sha256.Sum256(b)
		for _, v := range []int64{1, 2, most - 1, most} {
			if r, e := meta.RefOf(v, b); e != api.OK || !sameRef(r, api.Ref{Version: v, Size: int64(n), Hash: d[:]}) {
				t.Errorf("RefOf(%d, %d bytes): %v and error %d", v, n, r, e)
			}
		}
	}
	for _, n := range []int{0, 5, api.MaxHash, api.MaxHash + 1} {
		for _, v := range append([]int64{0}, out...) {
			if r, e := meta.RefOf(v, make([]byte, n)); e != api.ErrArg || !sameRef(r, api.Ref{}) {
				t.Errorf("RefOf(%d, %d bytes): %v and error %d", v, n, r, e)
			}
		}
	}
	for _, n := range []int{api.MaxHash + 1, 2 * api.MaxHash} {
		for _, v := range []int64{1, most} {
			if r, e := meta.RefOf(v, make([]byte, n)); e != api.ErrLong || !sameRef(r, api.Ref{}) {
				t.Errorf("RefOf(%d, %d bytes): %v and error %d", v, n, r, e)
			}
		}
	}
}

// P9.2: a Ref of bytes is one that records may have.
func TestRefsOfBytesAreRight(t *testing.T) {
	for _, n := range []int{0, 100} {
		r, _ := meta.RefOf(7, make([]byte, n))
		x := api.Timestamp{Version: 1, Snapshot: r}
		timestamps.right(t, "with a Ref of bytes", x, timestampBytes(x))
	}
}

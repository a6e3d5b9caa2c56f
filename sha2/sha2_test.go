package sha2_test

import (
	"bytes"
	"crypto/sha256"
	"crypto/sha512"
	"encoding/hex"
	"math"
	"math/big"
	"math/rand"
	"testing"

	"imprimatur/api"
	"imprimatur/sha2"
)

var bothBits = []int{256, 512}

// wrongBits are neither 256 nor 512.
var wrongBits = []int{0, 1, -1, 32, 64, 224, 255, 257, 384, 511, 513, 1024, -256, -512, math.MinInt, math.MaxInt}

// text is n bytes of chance, the same ones each time.
func text(n int) []byte {
	b := make([]byte, n)
	rand.New(rand.NewSource(int64(n) + 1)).Read(b)
	return b
}

// lengths are those about the ends of blocks, and the greatest ones.
func lengths() []int {
	l := []int{}
	for n := range 400 {
		l = append(l, n)
	}
	for _, at := range []int{1 << 10, 5000, 1 << 16, api.MaxHash} {
		for n := at - 18; n <= at && n <= api.MaxHash; n++ {
			l = append(l, n)
		}
	}
	return l
}

// known is what the library's digest of a text is.
func known(b []byte, bits int) []byte {
	if bits == 256 {
		s := sha256.Sum256(b)
		return s[:]
	}
	s := sha512.Sum512(b)
	return s[:]
}

func digest(b []byte, bits int) ([]byte, api.Errno) {
	if bits == 256 {
		return sha2.Sum256(b)
	}
	return sha2.Sum512(b)
}

func newHash(t *testing.T, bits int) *sha2.Hash {
	t.Helper()
	h, e := sha2.New(bits)
	if e != api.OK || h == nil {
		t.Fatalf("New(%d): %v and error %d", bits, h, e)
	}
	return h
}

func put(t *testing.T, h *sha2.Hash, b []byte) {
	t.Helper()
	if e := h.Write(b); e != api.OK {
		t.Fatalf("Write of %d bytes: error %d", len(b), e)
	}
}

// holds tells of a hash that does not answer for that text.
func holds(t *testing.T, h *sha2.Hash, b []byte, bits int) {
	t.Helper()
	if got := h.Sum(); !bytes.Equal(got, known(b, bits)) {
		t.Errorf("by %d: the digest of %d bytes is %x", bits, len(b), got)
	}
	if h.Count() != len(b) || h.Size() != bits/8 {
		t.Errorf("by %d: Count %d of %d bytes, Size %d", bits, h.Count(), len(b), h.Size())
	}
}

func primes(n int) []int64 {
	l := []int64{}
search:
	for c := int64(2); len(l) < n; c++ {
		for _, p := range l {
			if c%p == 0 {
				continue search
			}
		}
		l = append(l, c)
	}
	return l
}

// isRoot tells whether digits are the first 64 binary ones behind the point of the k-th root of p.
func isRoot(digits uint64, p int64, k int64) bool {
	power := func(x *big.Int) *big.Int { return new(big.Int).Exp(x, big.NewInt(k), nil) }
	whole := int64(1)
	for power(big.NewInt(whole+1)).Cmp(big.NewInt(p)) <= 0 {
		whole++
	}
	root := new(big.Int).Lsh(big.NewInt(whole), 64)
	root.Add(root, new(big.Int).SetUint64(digits))
	scaled := new(big.Int).Lsh(big.NewInt(p), uint(64*k))
	next := new(big.Int).Add(root, big.NewInt(1))
	return power(root).Cmp(scaled) <= 0 && power(next).Cmp(scaled) > 0
}

// P2.1
func TestConst(t *testing.T) {
	if x, e := sha2.Const(0); e != api.OK || x != 0x428A2F98D728AE22 {
		t.Errorf("Const(0): %x and error %d", x, e)
	}
	for i, p := range primes(80) {
		if x, e := sha2.Const(i); e != api.OK || !isRoot(x, p, 3) {
			t.Errorf("Const(%d): %x and error %d", i, x, e)
		}
	}
	for _, i := range []int{-1, 80, 81, math.MinInt, math.MaxInt} {
		if x, e := sha2.Const(i); e != api.ErrArg || x != 0 {
			t.Errorf("Const(%d): %x and error %d", i, x, e)
		}
	}
}

// P2.1
func TestStart(t *testing.T) {
	for i, p := range primes(8) {
		if x, e := sha2.Start(i); e != api.OK || !isRoot(x, p, 2) {
			t.Errorf("Start(%d): %x and error %d", i, x, e)
		}
	}
	for _, i := range []int{-1, 8, 79, math.MinInt, math.MaxInt} {
		if x, e := sha2.Start(i); e != api.ErrArg || x != 0 {
			t.Errorf("Start(%d): %x and error %d", i, x, e)
		}
	}
}

// P2.1
func TestPad(t *testing.T) {
	for _, c := range []struct {
		n, bits, size int
		end           []byte
	}{
		{0, 256, 64, []byte{0, 0, 0}}, {1, 256, 63, []byte{0, 0, 8}}, {55, 256, 9, []byte{0, 1, 184}}, {56, 256, 72, []byte{0, 1, 192}},
		{63, 256, 65, []byte{0, 1, 248}}, {64, 256, 64, []byte{0, 2, 0}},
		{0, 512, 128, []byte{0, 0, 0}}, {1, 512, 127, []byte{0, 0, 8}}, {111, 512, 17, []byte{0, 3, 120}}, {112, 512, 144, []byte{0, 3, 128}},
		{127, 512, 129, []byte{0, 3, 248}}, {128, 512, 128, []byte{0, 4, 0}},
		{api.MaxHash, 256, 64, []byte{128, 0, 0}}, {api.MaxHash, 512, 128, []byte{128, 0, 0}}, {api.MaxHash - 1, 512, 129, []byte{127, 255, 248}},
	} {
		want := make([]byte, c.size)
		want[0] = 128
		copy(want[c.size-3:], c.end)
		if got, e := sha2.Pad(c.n, c.bits); e != api.OK || !bytes.Equal(got, want) {
			t.Errorf("Pad(%d, %d): %v and error %d, not %v", c.n, c.bits, got, e, want)
		}
	}
}

// P2.1
func TestPadRefuses(t *testing.T) {
	refused := func(n, bits int, want api.Errno) {
		t.Helper()
		if p, e := sha2.Pad(n, bits); e != want || len(p) != 0 {
			t.Errorf("Pad(%d, %d): %v and error %d, not %d", n, bits, p, e, want)
		}
	}
	for _, bits := range wrongBits {
		for _, n := range []int{0, 1, -1, api.MaxHash, api.MaxHash + 1, math.MaxInt, math.MinInt} {
			refused(n, bits, api.ErrArg)
		}
	}
	for _, bits := range bothBits {
		refused(-1, bits, api.ErrArg)
		refused(math.MinInt, bits, api.ErrArg)
		refused(api.MaxHash+1, bits, api.ErrLong)
		refused(math.MaxInt, bits, api.ErrLong)
	}
}

// P2.2
func TestSumExamples(t *testing.T) {
	for _, c := range []struct {
		text      string
		bits      int
		hexDigest string
	}{
		{"", 256, "e3b0c44298fc1c149afbf4c8996fb92427ae41e4649b934ca495991b7852b855"},
		{"abc", 256, "ba7816bf8f01cfea414140de5dae2223b00361a396177a9cb410ff61f20015ad"},
		{"abcdbcdecdefdefgefghfghighijhijkijkljklmklmnlmnomnopnopq", 256, "248d6a61d20638b8e5c026930c3e6039a33ce45964ff2167f6ecedd419db06c1"},
		{"", 512, "cf83e1357eefb8bdf1542850d66d8007d620e4050b5715dc83f4a921d36ce9ce47d0d13c5d85f2b0ff8318d2877eec2f63b931bd47417a81a538327af927da3e"},
		{"abc", 512, "ddaf35a193617abacc417349ae20413112e6fa4e89a97ea20a9eeee64b55d39a2192992a274fc1a836ba3c23a3feebbd454d4423643ce80e2a9ac94fa54ca49f"},
	} {
		if got, e := digest([]byte(c.text), c.bits); e != api.OK || hex.EncodeToString(got) != c.hexDigest {
			t.Errorf("by %d of %q: %x and error %d", c.bits, c.text, got, e)
		}
	}
	if got, e := sha2.Sum256(nil); e != api.OK || !bytes.HasPrefix(got, []byte{227, 176, 196, 66}) {
		t.Errorf("Sum256 of nil: %x and error %d", got, e)
	}
}

// P2.2
func TestSum(t *testing.T) {
	for _, bits := range bothBits {
		for _, n := range lengths() {
			b := text(n)
			kept := bytes.Clone(b)
			if got, e := digest(b, bits); e != api.OK || !bytes.Equal(got, known(b, bits)) {
				t.Errorf("by %d: of %d bytes: %x and error %d", bits, n, got, e)
			}
			if !bytes.Equal(b, kept) {
				t.Errorf("by %d: the text of %d bytes was changed", bits, n)
			}
		}
		for _, n := range []int{api.MaxHash + 1, api.MaxHash + 64, 2 * api.MaxHash} {
			if got, e := digest(make([]byte, n), bits); e != api.ErrLong || len(got) != 0 {
				t.Errorf("by %d: of %d bytes: %x and error %d", bits, n, got, e)
			}
		}
	}
}

// P2.3
func TestNew(t *testing.T) {
	for _, bits := range bothBits {
		holds(t, newHash(t, bits), nil, bits)
	}
	for _, bits := range wrongBits {
		if h, e := sha2.New(bits); e != api.ErrArg || h != nil {
			t.Errorf("New(%d): %v and error %d", bits, h, e)
		}
	}
}

// P2.3
func TestWriteTooLong(t *testing.T) {
	for _, bits := range bothBits {
		h := newHash(t, bits)
		if e := h.Write(make([]byte, api.MaxHash+1)); e != api.ErrLong {
			t.Errorf("by %d: a byte too many at once: error %d", bits, e)
		}
		holds(t, h, nil, bits)
		b := text(api.MaxHash)
		put(t, h, b[:api.MaxHash-70])
		if e := h.Write(make([]byte, 71)); e != api.ErrLong {
			t.Errorf("by %d: a byte too many: error %d", bits, e)
		}
		holds(t, h, b[:api.MaxHash-70], bits)
		put(t, h, b[api.MaxHash-70:])
		holds(t, h, b, bits)
		put(t, h, nil)
		if e := h.Write([]byte{1}); e != api.ErrLong {
			t.Errorf("by %d: one byte behind MaxHash: error %d", bits, e)
		}
		holds(t, h, b, bits)
	}
}

// P2.3
func TestReset(t *testing.T) {
	for _, bits := range bothBits {
		h := newHash(t, bits)
		for _, n := range []int{0, 1, 63, 64, 200, api.MaxHash} {
			put(t, h, text(n))
			h.Reset()
			holds(t, h, nil, bits)
		}
		put(t, h, []byte("abc"))
		holds(t, h, []byte("abc"), bits)
	}
}

// P2.3; and P1 for a hash that New did not make
func TestNoHash(t *testing.T) {
	for _, h := range []*sha2.Hash{nil, {}} {
		for _, b := range [][]byte{nil, {}, {1}, make([]byte, api.MaxHash+1)} {
			if e := h.Write(b); e != api.ErrNil {
				t.Errorf("Write of %d bytes to no hash: error %d", len(b), e)
			}
		}
		h.Reset()
		if s, size, count, c := h.Sum(), h.Size(), h.Count(), h.Copy(); len(s) != 0 || size != 0 || count != 0 || c != nil {
			t.Errorf("no hash: Sum %x, Size %d, Count %d, Copy %v", s, size, count, c)
		}
	}
}

// P2.4
func TestPiecesMakeNoDifference(t *testing.T) {
	for _, bits := range bothBits {
		for _, n := range []int{0, 1, 55, 56, 63, 64, 65, 111, 112, 127, 128, 129, 256, 300} {
			b := text(n)
			for cut := range n + 1 {
				h := newHash(t, bits)
				put(t, h, b[:cut])
				put(t, h, b[cut:])
				holds(t, h, b, bits)
			}
		}
	}
}

// P2.4
func TestManyPiecesMakeNoDifference(t *testing.T) {
	r := rand.New(rand.NewSource(5))
	for _, bits := range bothBits {
		for range 200 {
			b := text(r.Intn(3000))
			h := newHash(t, bits)
			most := 1 + r.Intn(300)
			for at := 0; at < len(b); {
				end := min(len(b), at+r.Intn(most+1))
				put(t, h, b[at:end])
				at = end
			}
			holds(t, h, b, bits)
		}
		h := newHash(t, bits)
		b := text(600)
		for i := range b {
			put(t, h, b[i:i+1])
			holds(t, h, b[:i+1], bits)
		}
	}
}

// P2.5
func TestAskingChangesNothing(t *testing.T) {
	for _, bits := range bothBits {
		for _, n := range []int{0, 1, 55, 64, 112, 128, 200} {
			b := text(n + 50)
			h := newHash(t, bits)
			put(t, h, b[:n])
			for range 3 {
				holds(t, h, b[:n], bits)
				clear(h.Sum()) // what is answered is no part of the hash
				h.Copy()
			}
			put(t, h, b[n:])
			holds(t, h, b, bits)
		}
	}
}

// P2.5
func TestCopyGoesOnByItself(t *testing.T) {
	one, other := text(150), text(151)
	for _, bits := range bothBits {
		for _, n := range []int{0, 1, 63, 64, 100, 127, 128, 150} {
			h := newHash(t, bits)
			put(t, h, one[:n])
			c := h.Copy()
			put(t, h, one)
			holds(t, c, one[:n], bits)
			put(t, c, other)
			holds(t, h, append(bytes.Clone(one[:n]), one...), bits)
			holds(t, c, append(bytes.Clone(one[:n]), other...), bits)
			h.Reset()
			holds(t, c, append(bytes.Clone(one[:n]), other...), bits)
			d := c.Copy()
			c.Reset()
			holds(t, d, append(bytes.Clone(one[:n]), other...), bits)
		}
	}
}

// P2.5: what is written is not kept.
func TestWhatIsWrittenIsNotKept(t *testing.T) {
	for _, bits := range bothBits {
		h := newHash(t, bits)
		b := text(200)
		kept := bytes.Clone(b)
		put(t, h, b)
		if !bytes.Equal(b, kept) {
			t.Error("what is written is changed")
		}
		clear(b)
		holds(t, h, kept, bits)
	}
}

// P2.6
func TestPadFillsTheLastBlock(t *testing.T) {
	for _, bits := range bothBits {
		block, tail := bits/4, bits/32
		for _, n := range lengths() {
			p, e := sha2.Pad(n, bits)
			if e != api.OK || (n+len(p))%block != 0 || len(p) < 1+tail || len(p) > block+tail {
				t.Fatalf("Pad(%d, %d): %d bytes and error %d", n, bits, len(p), e)
			}
			zeros := p[1 : len(p)-tail]
			if p[0] != 128 || !bytes.Equal(zeros, make([]byte, len(zeros))) {
				t.Errorf("Pad(%d, %d): %v", n, bits, p)
			}
			if length := new(big.Int).SetBytes(p[len(p)-tail:]); length.Cmp(big.NewInt(int64(8*n))) != 0 {
				t.Errorf("Pad(%d, %d) tells the length %v", n, bits, length)
			}
		}
	}
}

// P2.6
func TestPadsTellLengthsApart(t *testing.T) {
	for _, bits := range bothBits {
		seen := map[string]int{}
		for _, n := range lengths() {
			p, _ := sha2.Pad(n, bits)
			if m, ok := seen[string(p)]; ok && m != n {
				t.Errorf("Pad(%d, %d) and Pad(%d, %d) are the same", n, bits, m, bits)
			}
			seen[string(p)] = n
		}
	}
}

// P2.6: a text that is longer by a part of its own padding has another digest.
func TestPaddedTextIsAnother(t *testing.T) {
	for _, bits := range bothBits {
		for n := range 130 {
			b := text(n)
			p, _ := sha2.Pad(n, bits)
			whole := append(bytes.Clone(b), p...)
			short, _ := digest(b, bits)
			for end := n + 1; end <= len(whole); end++ {
				if long, _ := digest(whole[:end], bits); bytes.Equal(short, long) {
					t.Errorf("by %d: %d bytes and %d bytes have one digest", bits, n, end)
				}
			}
		}
	}
}

// Rule 3 of the document: what is answered is new memory.
func TestAnswersAreNewMemory(t *testing.T) {
	for _, bits := range bothBits {
		p, _ := sha2.Pad(3, bits)
		clear(p)
		if q, _ := sha2.Pad(3, bits); q[0] != 128 {
			t.Error("Pad hands out memory twice")
		}
		s, _ := digest(nil, bits)
		clear(s)
		if got, _ := digest(nil, bits); !bytes.Equal(got, known(nil, bits)) {
			t.Error("a digest's memory is handed out twice")
		}
	}
}

func BenchmarkSum256(b *testing.B) { benchmarkSum(b, 256) }

func BenchmarkSum512(b *testing.B) { benchmarkSum(b, 512) }

func benchmarkSum(b *testing.B, bits int) {
	l := text(1 << 16)
	b.SetBytes(int64(len(l)))
	for b.Loop() {
		digest(l, bits)
	}
}

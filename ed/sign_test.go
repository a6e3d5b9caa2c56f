package ed_test

import (
	"bytes"
	"crypto/ed25519"
	"crypto/sha512"
	"encoding/hex"
	"math/big"
	"math/rand"
	"slices"
	"testing"

	"imprimatur/api"
	"imprimatur/ed"
)

// seedOf is a seed of chance, the same one for a number each time.
func seedOf(n int64) []byte {
	b := make([]byte, 32)
	rand.New(rand.NewSource(n)).Read(b)
	return b
}

// textOf is a message of n bytes.
func textOf(n int) []byte {
	b := make([]byte, n)
	rand.New(rand.NewSource(int64(n))).Read(b)
	return b
}

// scalarOf is the number of the Sha512 of pieces, modulo L.
func scalarOf(pieces ...[]byte) *big.Int {
	d := sha512.Sum512(slices.Concat(pieces...))
	return new(big.Int).Mod(numberOf(d[:]), order)
}

// fromHex is the bytes of hexadecimal digits.
func fromHex(s string) []byte {
	b, _ := hex.DecodeString(s)
	return b
}

// P5.3: what is known from elsewhere.
func TestKnownSignatures(t *testing.T) {
	for _, c := range [][4]string{
		{
			"9d61b19deffd5a60ba844af492ec2cc44449c5697b326919703bac031cae7f60",
			"d75a980182b10ab7d54bfed3c964073a0ee172f3daa62325af021a68f707511a", "",
			"e5564300c360ac729086e2cc806e828a84877f1eb8e5d974d873e065224901555fb8821590a33bacc61e39701cf9b46bd25bf5f0595bbe24655141438e7a100b",
		},
		{
			"4ccd089b28ff96da9db6c346ec114e0f5b8a319f35aba624da8cf6ed4fb8a6fb",
			"3d4017c3e843895a92b70aa74d1b7ebc9c982ccf2ec4968cc0cd55f12af4660c", "72",
			"92a009a9f0d4cab8720e820b5f642540a2b27b5416503f8fb3762223ebdb69da085ac1e43e15996e458f3613d0f11d8c387b2eaeb4302aeeb00d291612bb0c00",
		},
	} {
		seed, key, m, sig := fromHex(c[0]), fromHex(c[1]), fromHex(c[2]), fromHex(c[3])
		if k, e := ed.Key(seed); e != api.OK || !bytes.Equal(k, key) {
			t.Errorf("Key of %s: %x and error %d", c[0], k, e)
		}
		if s, e := ed.Sign(seed, m); e != api.OK || !bytes.Equal(s, sig) {
			t.Errorf("Sign by %s: %x and error %d", c[0], s, e)
		}
		if e := ed.Verify(key, m, sig); e != api.OK {
			t.Errorf("Verify by %s: error %d", c[1], e)
		}
	}
}

// P5.3
func TestKey(t *testing.T) {
	if k, e := ed.Key(make([]byte, 32)); e != api.OK || !bytes.Equal(k[:4], []byte{59, 106, 39, 188}) {
		t.Errorf("Key of 32 bytes 0: %v and error %d", k, e)
	}
	for n := range int64(100) {
		seed := seedOf(n)
		want := ed25519.NewKeyFromSeed(seed).Public().(ed25519.PublicKey)
		if k, e := ed.Key(seed); e != api.OK || !bytes.Equal(k, want) {
			t.Fatalf("Key of %v: %v and error %d, not %v", seed, k, e, want)
		}
	}
	for _, y := range []byte{1, 127, 128, 255} {
		seed := bytes.Repeat([]byte{y}, 32)
		want := ed25519.NewKeyFromSeed(seed).Public().(ed25519.PublicKey)
		if k, e := ed.Key(seed); e != api.OK || !bytes.Equal(k, want) {
			t.Fatalf("Key of %v: %v and error %d, not %v", seed, k, e, want)
		}
	}
}

// P5.3
func TestSign(t *testing.T) {
	lengths := []int{31, 32, 33, 63, 64, 65, 79, 80, 111, 112, 127, 128, 129, 1000, api.MaxBytes - 1, api.MaxBytes}
	for n := range 24 {
		lengths = append(lengths, n)
	}
	for i, n := range lengths {
		seed, m := seedOf(int64(i)), textOf(n)
		want := ed25519.Sign(ed25519.NewKeyFromSeed(seed), m)
		if s, e := ed.Sign(seed, m); e != api.OK || !bytes.Equal(s, want) {
			t.Fatalf("Sign of %d bytes by %v: %v and error %d, not %v", n, seed, s, e, want)
		}
	}
	s, e := ed.Sign(seedOf(1), nil)
	if again, f := ed.Sign(seedOf(1), []byte{}); e != api.OK || f != api.OK || !bytes.Equal(s, again) {
		t.Errorf("Sign of none and of no bytes: errors %d and %d", e, f)
	}
}

// P5.3
func TestKeyAndSignRefuse(t *testing.T) {
	long := make([]byte, api.MaxBytes+1)
	for _, n := range []int{0, 1, 31, 33, 64, 1000} {
		seed := make([]byte, n)
		if k, e := ed.Key(seed); e != api.ErrArg || len(k) != 0 {
			t.Errorf("Key of %d bytes: %v and error %d", n, k, e)
		}
		for _, m := range [][]byte{nil, {1}, long} { // ErrArg ahead of ErrLong
			if s, e := ed.Sign(seed, m); e != api.ErrArg || len(s) != 0 {
				t.Errorf("Sign by %d bytes: %v and error %d", n, s, e)
			}
		}
	}
	if k, e := ed.Key(nil); e != api.ErrArg || len(k) != 0 {
		t.Errorf("Key of none: %v and error %d", k, e)
	}
	for _, n := range []int{api.MaxBytes + 1, api.MaxBytes + 2, 1 << 21} {
		if s, e := ed.Sign(seedOf(1), make([]byte, n)); e != api.ErrLong || len(s) != 0 {
			t.Errorf("Sign of %d bytes: %v and error %d", n, s, e)
		}
	}
}

// P5.4, P5.8, W1
func TestWhatIsSignedIsProved(t *testing.T) {
	for i, n := range []int{0, 1, 3, 64, 127, 128, 500, api.MaxBytes} {
		seed, m := seedOf(int64(n)), textOf(n)
		key, _ := ed.Key(seed)
		sig, _ := ed.Sign(seed, m)
		if e := ed.Verify(key, m, sig); e != api.OK {
			t.Fatalf("Verify of %d bytes: error %d", n, e)
		}
		strange, _ := ed.Key(seedOf(int64(n) + 1))
		if e := ed.Verify(strange, m, sig); e != api.ErrSig {
			t.Errorf("Verify by another key: error %d", e)
		}
		if e := ed.Verify(key, append(slices.Clone(m[:min(n, 500)]), byte(i)), sig); e != api.ErrSig {
			t.Errorf("Verify of another message: error %d", e)
		}
		if n > 0 && ed.Verify(key, m[:n-1], sig) != api.ErrSig {
			t.Error("Verify of a message that is cut off")
		}
	}
}

// P5.4, W1: each digit counts, of the key, the message and the signature.
func TestEachDigitCounts(t *testing.T) {
	seed, m := seedOf(3), []byte("vocabulary")
	key, _ := ed.Key(seed)
	sig, _ := ed.Sign(seed, m)
	for at := range 8 * (len(key) + len(m) + len(sig)) {
		l := slices.Concat(key, m, sig)
		l[at/8] ^= 1 << (at % 8)
		k, n, s := l[:32], l[32:32+len(m)], l[32+len(m):]
		want := api.ErrSig
		if _, e := ed.Decode(k); e != api.OK {
			want = api.ErrKey
		}
		if e := ed.Verify(k, n, s); e != want {
			t.Fatalf("Verify with the digit %d being another one: error %d, not %d", at, e, want)
		}
		if ed25519.Verify(k, n, s) {
			t.Fatalf("the digit %d does not count elsewhere", at)
		}
	}
}

// P5.4: each error, and which is told first.
func TestVerifyRefuses(t *testing.T) {
	seed, m := seedOf(4), []byte("abc")
	key, _ := ed.Key(seed)
	sig, _ := ed.Sign(seed, m)
	long := make([]byte, api.MaxBytes+1)
	noKey := append([]byte{2}, make([]byte, 31)...) // no point has 2 as y
	zeroOdd := append([]byte{1}, make([]byte, 31)...)
	zeroOdd[31] = 128
	beyond := append(append([]byte{237}, bytes.Repeat([]byte{255}, 30)...), 127) // p
	noScalar := slices.Concat(sig[:32], littleOf(order, 32))
	for _, c := range []struct {
		what        string
		key, m, sig []byte
		want        api.Errno
	}{
		{"none", nil, nil, nil, api.ErrArg},
		{"a key of 31", key[:31], m, sig, api.ErrArg},
		{"a key of 33", append(slices.Clone(key), 0), m, sig, api.ErrArg},
		{"a signature of 63", key, m, sig[:63], api.ErrArg},
		{"a signature of 65", key, m, append(slices.Clone(sig), 0), api.ErrArg},
		{"no signature", key, m, nil, api.ErrArg},
		{"a key of 31 and too long", key[:31], long, sig, api.ErrArg},
		{"a signature of 63, no key and too long", noKey, long, sig[:63], api.ErrArg},
		{"too long", key, long, sig, api.ErrLong},
		{"too long and no key", noKey, long, sig, api.ErrLong},
		{"too long and no scalar", key, long, noScalar, api.ErrLong},
		{"no key", noKey, m, sig, api.ErrKey},
		{"an odd 0", zeroOdd, m, sig, api.ErrKey},
		{"a y of p", beyond, m, sig, api.ErrKey},
		{"no key and no scalar", noKey, m, noScalar, api.ErrKey},
		{"no scalar", key, m, noScalar, api.ErrSig},
		{"no point in the signature", key, m, slices.Concat(noKey, sig[32:]), api.ErrSig},
		{"bytes 0", key, m, make([]byte, 64), api.ErrSig},
		{"bytes 255", key, m, bytes.Repeat([]byte{255}, 64), api.ErrSig},
		{"halves in the other order", key, m, slices.Concat(sig[32:], sig[:32]), api.ErrSig},
		{"the signature", key, m, sig, api.OK},
	} {
		if e := ed.Verify(c.key, c.m, c.sig); e != c.want {
			t.Errorf("Verify with %s: error %d, not %d", c.what, e, c.want)
		}
	}
}

// P5.9, W1
func TestAnotherScalarIsNoSignature(t *testing.T) {
	r := rand.New(rand.NewSource(11))
	for n := range int64(8) {
		seed, m := seedOf(n), textOf(int(n))
		key, _ := ed.Key(seed)
		sig, _ := ed.Sign(seed, m)
		s := numberOf(sig[32:])
		l := []*big.Int{new(big.Int), big.NewInt(1), new(big.Int).Sub(order, s), new(big.Int).Sub(order, big.NewInt(1)), new(big.Int).Rand(r, order)}
		for k := int64(1); k < 16; k++ { // S and L together, as often as it fits
			l = append(l, new(big.Int).Add(s, new(big.Int).Mul(order, big.NewInt(k))))
		}
		for i := range uint(256) {
			l = append(l, new(big.Int).Xor(s, power2(i)))
		}
		for _, x := range l {
			if x.BitLen() > 256 || x.Cmp(s) == 0 {
				continue
			}
			if e := ed.Verify(key, m, slices.Concat(sig[:32], littleOf(x, 32))); e != api.ErrSig {
				t.Fatalf("Verify with %v as S, not %v: error %d", x, s, e)
			}
		}
		if e := ed.Verify(key, m, sig); e != api.OK {
			t.Fatalf("Verify: error %d", e)
		}
	}
}

// P5.4: a key may be of small order, or have a part of it; then what is proved hangs on k, modulo L, and on the first half's bytes.
func TestKeysOfSmallOrder(t *testing.T) {
	l := twisted()
	told := map[api.Errno]int{}
	for i, p := range append(l, added(base(), l[1]), added(base(), l[4])) {
		for n := range 8 {
			m, key := textOf(n), bytesOf(p)
			s := scalarOf(seedOf(int64(n)))
			for _, q := range []pair{often(s, base()), added(often(s, base()), l[n])} {
				first := bytesOf(q)
				k := scalarOf(first, key, m)
				want := api.ErrSig
				if added(often(s, base()), other(often(k, p))).is(q) {
					want = api.OK
				}
				told[want]++
				if e := ed.Verify(key, m, slices.Concat(first, littleOf(s, 32))); e != want {
					t.Fatalf("Verify by the key %d of the message %d: error %d, not %d", i, n, e, want)
				}
			}
		}
	}
	if told[api.OK] < 10 || told[api.ErrSig] < 10 {
		t.Errorf("too few of both: %v", told)
	}
}

// P5.4: a first half that is another way to write the point is none.
func TestFirstHalvesAreComparedAsBytes(t *testing.T) {
	key, s := bytesOf(zero()), make([]byte, 32) // 0 times the base less k times zero: zero
	right := bytesOf(zero())
	odd := slices.Clone(right)
	odd[31] |= 128
	beyond := littleOf(new(big.Int).Add(prime, big.NewInt(1)), 32) // y of p + 1
	for i, first := range [][]byte{right, odd, beyond} {
		want := api.ErrSig
		if i == 0 {
			want = api.OK
		}
		if e := ed.Verify(key, []byte("any"), slices.Concat(first, s)); e != want {
			t.Errorf("Verify with %v ahead: error %d, not %d", first, e, want)
		}
	}
}

// P1
func TestSigningEnds(t *testing.T) {
	r := rand.New(rand.NewSource(12))
	for range 200 {
		key, m, sig := make([]byte, 32-r.Intn(2)), make([]byte, r.Intn(200)), make([]byte, 64-r.Intn(2))
		for _, b := range [][]byte{key, m, sig} {
			r.Read(b)
		}
		sig[len(sig)-1] &= 31
		_, k := ed.Key(key)
		_, s := ed.Sign(key, m)
		v := ed.Verify(key, m, sig)
		if (k == api.OK) != (len(key) == 32) || k != s || (v == api.ErrArg) != (len(key) != 32 || len(sig) != 64) || v == api.OK {
			t.Fatalf("%d, %d and %d bytes: errors %d, %d, %d", len(key), len(m), len(sig), k, s, v)
		}
	}
	long := make([]byte, 1<<21)
	ed.Key(long)
	ed.Sign(long, long)
	ed.Verify(long, long, long)
}

// Rule 3 of the document: what is handed in is neither changed nor kept, what is answered is new memory.
func TestSigningSharesNoMemory(t *testing.T) {
	whole := slices.Concat(seedOf(5), textOf(50), []byte("what is behind"))
	seed, m := whole[:32], whole[32:82]
	kept := slices.Clone(whole)
	key, _ := ed.Key(seed)
	sig, _ := ed.Sign(seed, m)
	both := slices.Concat(key, sig)
	if e := ed.Verify(both[:32], m, both[32:]); e != api.OK {
		t.Fatalf("Verify: error %d", e)
	}
	if !bytes.Equal(whole, kept) || !bytes.Equal(both, slices.Concat(key, sig)) {
		t.Error("what was handed in is changed")
	}
	clear(key)
	clear(sig)
	k, _ := ed.Key(seed)
	s, _ := ed.Sign(seed, m)
	if !bytes.Equal(both, slices.Concat(k, s)) {
		t.Error("what was answered is kept")
	}
}

func BenchmarkSign(b *testing.B) {
	seed, m := seedOf(1), textOf(1000)
	for b.Loop() {
		ed.Sign(seed, m)
	}
}

func BenchmarkVerify(b *testing.B) {
	seed, m := seedOf(1), textOf(1000)
	key, _ := ed.Key(seed)
	sig, _ := ed.Sign(seed, m)
	for b.Loop() {
		ed.Verify(key, m, sig)
	}
}

package ed

import (
	"bytes"
	"slices"

	"imprimatur/api"
	"imprimatur/field"
	"imprimatur/sha2"
)

// scalarOf is the number of the Sha512 of pieces, one behind the other, modulo L.
// (No errors: what is signed is far below what may be digested, and a digest is not too long to be folded.)
func scalarOf(pieces ...[]byte) []byte {
	h, _ := sha2.New(512)
	for _, b := range pieces {
		h.Write(b)
	}
	s, _ := field.Fold(h.Sum())
	return s
}

// halves are a seed's secret and its salt.
func halves(seed []byte) (secret, salt []byte) {
	b, _ := sha2.Sum512(seed) // no error: a seed is short
	secret, salt = b[:size], b[size:]
	secret[0] &^= 7
	secret[last] = secret[last]&^highest | highest>>1
	return secret, salt
}

// baseTimes is the bytes of the base so many times.
func baseTimes(n []byte) []byte {
	p, _ := Mul(n, Base()) // no error: scalars and secrets are not too long
	return Encode(p)
}

// Key is a seed's key.
func Key(seed []byte) ([]byte, api.Errno) {
	if len(seed) != size {
		return nil, api.ErrArg
	}
	secret, _ := halves(seed)
	return baseTimes(secret), api.OK
}

// Sign is the signature of a message.
func Sign(seed, m []byte) ([]byte, api.Errno) {
	if len(seed) != size {
		return nil, api.ErrArg
	}
	if len(m) > api.MaxBytes {
		return nil, api.ErrLong
	}
	secret, salt := halves(seed)
	r := scalarOf(salt, m)
	first := baseTimes(r)
	k := scalarOf(first, baseTimes(secret), m)
	second, _ := field.Times(k, secret, r) // no error: none is too long
	return slices.Concat(first, second), api.OK
}

// Verify proves a signature.
func Verify(key, m, sig []byte) api.Errno {
	if len(key) != size || len(sig) != 2*size {
		return api.ErrArg
	}
	if len(m) > api.MaxBytes {
		return api.ErrLong
	}
	p, e := Decode(key)
	if e != api.OK {
		return api.ErrKey
	}
	first, second := sig[:size], sig[size:]
	if field.Scalar(second) != api.OK {
		return api.ErrSig
	}
	k := scalarOf(first, key, m)
	r, _ := Mix(k, Neg(p), second) // no error: both are scalars
	if !bytes.Equal(Encode(r), first) {
		return api.ErrSig
	}
	return api.OK
}

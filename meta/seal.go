package meta

import (
	"imprimatur/api"
	"imprimatur/ed"
	"imprimatur/sha2"
	"imprimatur/wire"
)

const seedSize = 32

// known tells whether there is such a kind of records.
func known(kind int64) bool {
	return kind >= api.RRoot && kind <= api.RTargets
}

// seeded tells whether all seeds are as long as seeds are.
func seeded(seeds [][]byte) bool {
	for _, s := range seeds {
		if len(s) != seedSize {
			return false
		}
	}
	return true
}

// Message is what is signed.
func Message(kind int64, body []byte) ([]byte, api.Errno) {
	if !known(kind) {
		return nil, api.ErrArg
	}
	if len(body) > api.MaxMeta {
		return nil, api.ErrLong
	}
	return wire.Write(wire.List(wire.Text("imprimatur"), wire.Num(uint64(kind)), wire.Bytes(body)), wire.Whole())
}

// Seal is a record's bytes, signed by seeds.
func Seal(kind int64, body []byte, seeds ...[]byte) ([]byte, api.Errno) {
	if !known(kind) || !seeded(seeds) {
		return nil, api.ErrArg
	}
	if len(seeds) > api.MaxSigs {
		return nil, api.ErrLong
	}
	m, e := Message(kind, body)
	if e != api.OK { // the body alone is too long for a Signed, too
		return nil, e
	}
	s := api.Signed{Kind: kind, Body: body}
	for _, seed := range seeds {
		s.Sigs = append(s.Sigs, signature(seed, m))
	}
	return WriteSigned(s)
}

// signature is a seed's key and its signature of a message. (No errors: the seed is one, and no message is too long.)
func signature(seed, m []byte) api.Sig {
	key, _ := ed.Key(seed)
	sig, _ := ed.Sign(seed, m)
	return api.Sig{Key: key, Sig: sig}
}

// RefOf is the Ref of bytes.
func RefOf(v int64, b []byte) (api.Ref, api.Errno) {
	if v < 1 || v > mostNumber {
		return api.Ref{}, api.ErrArg
	}
	d, e := sha2.Sum256(b)
	if e != api.OK { // too many bytes
		return api.Ref{}, e
	}
	return api.Ref{Version: v, Size: int64(len(b)), Hash: d}, api.OK
}

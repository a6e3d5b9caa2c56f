package meta

import (
	"bytes"
	"math"

	"imprimatur/api"
)

const (
	mostNumber = 1 << 62
	keySize    = 32
	digestSize = 32
	sigSize    = 64
	roles      = api.RTargets + 1 // one for each kind of record
)

// How records are told: each function goes through the parts of one.

// version goes on to a version.
func version(p *parts, n *int64) {
	p.number(n, 1, mostNumber)
}

// head goes on to what records begin with: a version, and when they expire.
func head(p *parts, v, expires *int64) {
	version(p, v)
	p.number(expires, 0, mostNumber)
}

func role(p *parts, r *api.Role) {
	p.number(&r.Need, 1, api.MaxKeys)
	row(p, &r.Keys, 1, api.MaxKeys, func(p *parts, key *[]byte) { p.bytes(key, keySize, keySize) })
	p.must(r.Need <= int64(len(r.Keys)) && rising(r.Keys))
}

func ref(p *parts, r *api.Ref) {
	version(p, &r.Version)
	p.number(&r.Size, 0, mostNumber)
	p.bytes(&r.Hash, digestSize, digestSize)
}

func root(p *parts, r *api.Root) {
	head(p, &r.Version, &r.Expires)
	row(p, &r.Roles, roles, roles, func(p *parts, r *api.Role) { inner(p, r, role) })
}

func timestamp(p *parts, r *api.Timestamp) {
	head(p, &r.Version, &r.Expires)
	inner(p, &r.Snapshot, ref)
}

func snapshot(p *parts, r *api.Snapshot) {
	head(p, &r.Version, &r.Expires)
	inner(p, &r.Targets, ref)
}

func targets(p *parts, r *api.Targets) {
	head(p, &r.Version, &r.Expires)
	p.number(&r.Size, 1, api.MaxBundle)
	p.number(&r.Chunk, api.MinChunk, api.MaxChunk)
	p.bytes(&r.Root, digestSize, digestSize)
}

func sig(p *parts, s *api.Sig) {
	p.bytes(&s.Key, keySize, keySize)
	p.bytes(&s.Sig, sigSize, sigSize)
}

func signed(p *parts, s *api.Signed) {
	p.number(&s.Kind, api.RRoot, api.RTargets)
	p.bytes(&s.Body, 0, math.MaxInt) // however long, it is right: only its bytes may be too many
	row(p, &s.Sigs, 0, api.MaxSigs, func(p *parts, s *api.Sig) { inner(p, s, sig) })
}

// rising tells whether each key is above the one ahead of it.
func rising(keys [][]byte) bool {
	for i := 1; i < len(keys); i++ {
		if bytes.Compare(keys[i-1], keys[i]) >= 0 {
			return false
		}
	}
	return true
}

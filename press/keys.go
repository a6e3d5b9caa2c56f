package press

import (
	"bytes"
	"slices"

	"imprimatur/api"
	"imprimatur/ed"
	"imprimatur/meta"
)

const seedSize = 32

// Role is the role of keys.
func Role(k Keys) (api.Role, api.Errno) {
	for _, s := range k.Seeds {
		if len(s) != seedSize {
			return api.Role{}, api.ErrArg
		}
	}
	r := api.Role{Keys: keysOf(k.Seeds), Need: k.Need}
	if n := len(r.Keys); n > api.MaxKeys || r.Need < 1 || r.Need > int64(n) {
		return api.Role{}, api.ErrMeta
	}
	return r, api.OK
}

// keysOf are the keys of seeds, rising, each once. Of more than a role may have it is one too many: a key takes long to reckon, and seeds may be many.
func keysOf(seeds [][]byte) [][]byte {
	seeds = slices.Clone(seeds)
	slices.SortFunc(seeds, bytes.Compare)
	var keys [][]byte
	for _, s := range slices.CompactFunc(seeds, bytes.Equal) {
		key, _ := ed.Key(s) // no error: the seed is one
		if at, there := slices.BinarySearchFunc(keys, key, bytes.Compare); !there {
			keys = slices.Insert(keys, at, key)
		}
		if len(keys) > api.MaxKeys {
			break
		}
	}
	return keys
}

// Root is a root by keys for roots, timestamps, snapshots and targets records, sealed by signers.
func Root(version, expires int64, keys [4]Keys, signers ...[]byte) ([]byte, api.Errno) {
	r := api.Root{Version: version, Expires: expires}
	for _, k := range keys {
		role, e := Role(k)
		if e != api.OK {
			return nil, e
		}
		r.Roles = append(r.Roles, role)
	}
	body, e := meta.WriteRoot(r)
	if e != api.OK {
		return nil, e
	}
	return meta.Seal(api.RRoot, body, signers...)
}

package roles

import (
	"bytes"

	"imprimatur/api"
	"imprimatur/ed"
	"imprimatur/meta"
	"imprimatur/sha2"
)

// Enough tells whether a record is signed by enough keys of a role.
func Enough(r api.Role, s api.Signed) bool {
	m, e := meta.Message(s.Kind, s.Body)
	if e != api.OK {
		return false
	}
	return proved(r.Keys, s.Sigs, m) >= r.Need
}

// proved is how many keys, each counted once, have a signature of a message.
func proved(keys [][]byte, sigs []api.Sig, m []byte) int64 {
	left := map[string]struct{}{} // a key goes as it is proved, so that none counts twice
	for _, k := range keys {
		left[string(k)] = struct{}{}
	}
	n := int64(0)
	for _, s := range sigs {
		if _, ok := left[string(s.Key)]; ok && ed.Verify(s.Key, m, s.Sig) == api.OK {
			delete(left, string(s.Key))
			n++
		}
	}
	return n
}

// enoughFor tells whether a Signed that was read is enough for a root's role of its kind.
func enoughFor(root api.Root, s api.Signed) bool {
	return s.Kind < int64(len(root.Roles)) && Enough(root.Roles[s.Kind], s)
}

// recordIn is the record of a kind in bytes, and the Signed that it stands in.
func recordIn[R any](b []byte, kind int64, read func([]byte) (R, api.Errno)) (R, api.Signed, api.Errno) {
	var none R
	s, e := meta.ReadSigned(b)
	if e != api.OK || s.Kind != kind {
		return none, api.Signed{}, api.ErrMeta
	}
	r, e := read(s.Body)
	if e != api.OK {
		return none, api.Signed{}, api.ErrMeta
	}
	return r, s, api.OK
}

// signedBy is the record of a kind in bytes, if it is enough for a root's role of that kind.
func signedBy[R any](root api.Root, b []byte, kind int64, read func([]byte) (R, api.Errno)) (R, api.Errno) {
	var none R
	r, s, e := recordIn(b, kind, read)
	if e != api.OK {
		return none, e
	}
	if !enoughFor(root, s) {
		return none, api.ErrThreshold
	}
	return r, api.OK
}

// referred is likewise, of the bytes that a Ref tells of.
func referred[R any](root api.Root, ref api.Ref, b []byte, kind int64, read func([]byte) (R, api.Errno)) (R, api.Errno) {
	var none R
	if int64(len(b)) != ref.Size {
		return none, api.ErrSize
	}
	d, e := sha2.Sum256(b)
	if e != api.OK || !bytes.Equal(d, ref.Hash) { // what is too long for a digest has not that one
		return none, api.ErrHash
	}
	return signedBy(root, b, kind, read)
}

// lasting is ErrExpired for what has expired.
func lasting(expires, now int64) api.Errno {
	if expires <= now {
		return api.ErrExpired
	}
	return api.OK
}

// sameTime tells whether two timestamps are one record.
func sameTime(a, b api.Timestamp) bool {
	return a.Version == b.Version && a.Expires == b.Expires && sameRef(a.Snapshot, b.Snapshot)
}

func sameRef(a, b api.Ref) bool {
	return a.Version == b.Version && a.Size == b.Size && bytes.Equal(a.Hash, b.Hash)
}

// own is a trust that shares no memory with the one that it is made of.
func own(t Trust) Trust {
	t.Root.Roles = each(t.Root.Roles, ownRole)
	t.Time.Snapshot.Hash = bytes.Clone(t.Time.Snapshot.Hash)
	t.Snap.Targets.Hash = bytes.Clone(t.Snap.Targets.Hash)
	t.Aim.Root = bytes.Clone(t.Aim.Root)
	return t
}

func ownRole(r api.Role) api.Role {
	return api.Role{Keys: each(r.Keys, bytes.Clone), Need: r.Need}
}

// each is a list of what is made of each.
func each[T any](l []T, of func(T) T) []T {
	var made []T
	for _, x := range l {
		made = append(made, of(x))
	}
	return made
}

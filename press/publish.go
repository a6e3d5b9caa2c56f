package press

import (
	"imprimatur/api"
	"imprimatur/merkle"
	"imprimatur/meta"
	"imprimatur/vocab"
)

// Publish is an issue's edition by keys for roots, timestamps, snapshots and targets records.
func Publish(i Issue, keys [4]Keys) (Edition, api.Errno) {
	bundle, e := bundleOf(i.Vocab)
	if e != api.OK {
		return Edition{}, e
	}
	root, e := merkle.Of(bundle, i.Chunk)
	if e != api.OK {
		return Edition{}, api.ErrArg
	}
	x := Edition{Bundle: bundle, Chunk: i.Chunk}
	e = x.lead(api.Targets{Version: i.Version, Expires: i.Expires, Size: int64(len(bundle)), Chunk: i.Chunk, Root: root}, keys)
	if e != api.OK {
		return Edition{}, e
	}
	return x, api.OK
}

// bundleOf are the bytes of a vocabulary, if it is well formed.
func bundleOf(v api.Vocab) ([]byte, api.Errno) {
	if _, e := vocab.Check(v); e != api.OK {
		return nil, e
	}
	return vocab.Write(v)
}

// lead seals a targets record, and those that lead to it, which have its version and expiry. It answers the first error.
func (x *Edition) lead(aim api.Targets, keys [4]Keys) api.Errno {
	failed := api.OK
	var last api.Ref // of what was sealed last
	seal := func(kind int, body []byte, wrong api.Errno) (b []byte) {
		if failed != api.OK { // this record tells of one that is not there
			return nil
		}
		if failed = wrong; failed == api.OK {
			b, failed = meta.Seal(int64(kind), body, keys[kind].Seeds...)
			last, _ = meta.RefOf(aim.Version, b) // no error: the record is right, so its version is one
		}
		return b
	}
	body, e := meta.WriteTargets(aim)
	x.Aim = seal(api.RTargets, body, e)
	body, e = meta.WriteSnapshot(api.Snapshot{Version: aim.Version, Expires: aim.Expires, Targets: last})
	x.Snap = seal(api.RSnapshot, body, e)
	body, e = meta.WriteTimestamp(api.Timestamp{Version: aim.Version, Expires: aim.Expires, Snapshot: last})
	x.Stamp = seal(api.RTimestamp, body, e)
	return failed
}

package desk

import (
	"imprimatur/api"
	"imprimatur/press"
)

const (
	seedSize  = 32
	maxTokens = 5000 // more than a well formed vocabulary may have
	maxMerges = 5000
	maxRoots  = 32
	maxSeeds  = 16
)

// hand hands Keys to a role.
func (d *Desk) hand(role, need int64, seeds ...[]byte) api.Errno {
	if len(seeds) > maxSeeds {
		return api.ErrLong
	}
	d.keys[role] = press.Keys{Seeds: seeds, Need: need}
	return api.OK
}

// root makes a root: the first one is pinned, all others come behind it.
func (d *Desk) root(version, expires int64, signers ...[]byte) api.Errno {
	if len(signers) > maxSeeds || len(d.roots) == maxRoots {
		return api.ErrLong
	}
	b, e := press.Root(version, expires, d.keys, signers...)
	switch {
	case e != api.OK:
		return e
	case d.pin == nil:
		d.pin = b
	default:
		d.roots = append(d.roots, b)
	}
	return api.OK
}

// letters are the short tokens of all bytes.
func letters() []api.Token {
	l := make([]api.Token, 256)
	for i := range l {
		l[i].Bytes = []byte{byte(i)}
	}
	return l
}

// put puts tokens behind those of the vocabulary.
func (d *Desk) put(tokens ...api.Token) api.Errno {
	if len(d.vocab.Tokens)+len(tokens) > maxTokens {
		return api.ErrLong
	}
	d.vocab.Tokens = append(d.vocab.Tokens, tokens...)
	return api.OK
}

// merge puts a merge behind those of the vocabulary.
func (d *Desk) merge(m api.Merge) api.Errno {
	if len(d.vocab.Merges) == maxMerges {
		return api.ErrLong
	}
	d.vocab.Merges = append(d.vocab.Merges, m)
	return api.OK
}

// clear empties the vocabulary.
func (d *Desk) clear() api.Errno {
	d.vocab = api.Vocab{}
	return api.OK
}

// issue publishes the vocabulary.
func (d *Desk) issue(i press.Issue) api.Errno {
	i.Vocab = d.vocab
	x, e := press.Publish(i, d.keys)
	if e == api.OK {
		d.edition = &x
	}
	return e
}

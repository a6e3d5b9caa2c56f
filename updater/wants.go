package updater

import (
	"imprimatur/api"
)

// Want is what an updater wants of the mirror. What is zero has no meaning in a Kind.
type Want struct {
	Kind    int
	Version int64
	Place   int
}

// Kinds of what is wanted.
const (
	wantNothing = iota
	wantRoot
	wantTimestamp
	wantSnapshot
	wantTargets
	wantChunk
)

// take does what a reply does.
func (u *Updater) take(a *attempt, reply []byte) api.Errno {
	if len(reply) > u.limit {
		return api.ErrLong
	}
	switch a.want.Kind {
	case wantRoot:
		return a.root(reply)
	case wantTimestamp:
		return a.timestamp(reply)
	case wantSnapshot:
		return a.snapshot(reply)
	case wantTargets:
		return u.targets(a, reply)
	default:
		return u.chunk(a, reply)
	}
}

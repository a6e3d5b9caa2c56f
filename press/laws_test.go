package press_test

import (
	"bytes"
	"math"
	"math/rand"
	"slices"
	"testing"

	"imprimatur/api"
	"imprimatur/press"
	"imprimatur/roles"
	"imprimatur/updater"
)

// someKeys are Keys of seeds of chance, of numbers from one on, the role of which is right.
func someKeys(r *rand.Rand, first int) press.Keys {
	n := 1 + r.Intn(5)
	l := seedsFrom(first, n)
	for range r.Intn(3) {
		l = append(l, l[r.Intn(n)])
	}
	r.Shuffle(len(l), func(i, j int) { l[i], l[j] = l[j], l[i] })
	return press.Keys{Seeds: l, Need: int64(1 + r.Intn(n))}
}

// someFour are four of these.
func someFour(r *rand.Rand, first int) [4]press.Keys {
	var keys [4]press.Keys
	for i := range keys {
		keys[i] = someKeys(r, first+10*i)
	}
	return keys
}

// some are n of the seeds of Keys, no two the same.
func some(r *rand.Rand, k press.Keys, n int) [][]byte {
	l := slices.Clone(k.Seeds)
	slices.SortFunc(l, bytes.Compare)
	l = slices.CompactFunc(l, bytes.Equal)
	r.Shuffle(len(l), func(i, j int) { l[i], l[j] = l[j], l[i] })
	return l[:n]
}

// trusts is what is trusted behind an edition, from a trust on, at a time.
func trusts(x roles.Trust, e press.Edition, now int64) (roles.Trust, api.Errno) {
	x, errno := roles.Stamp(x, e.Stamp, now)
	if errno == api.OK {
		x, errno = roles.Snap(x, e.Snap, now)
	}
	if errno == api.OK {
		x, errno = roles.Aim(x, e.Aim, now)
	}
	return x, errno
}

// P16.4, W1, W3: so many as must sign are enough, fewer are not; an edition by these keys is trusted from there on, till it expires, one by others is not.
func TestWhatIsPublishedIsTrusted(t *testing.T) {
	t.Parallel()
	r := rand.New(rand.NewSource(1))
	for range 20 {
		keys := someFour(r, 100)
		need := int(keys[0].Need)
		b := must(press.Root(3, 50, keys, some(r, keys[0], need)...))
		pin, e := roles.Pin(b)
		done(t, e)
		if _, e := roles.Pin(must(press.Root(3, 50, keys, some(r, keys[0], need-1)...))); e != api.ErrThreshold {
			t.Errorf("a root that too few signed: error %d", e)
		}
		if _, e := roles.Pin(must(press.Root(3, 50, keys, append(some(r, keys[0], need-1), seedsFrom(500, 9)...)...))); e != api.ErrThreshold {
			t.Errorf("a root that strangers signed: error %d", e)
		}
		i := press.Issue{Version: 1 + r.Int63n(9), Expires: 40 + r.Int63n(20), Chunk: 1000, Vocab: learnt('x', r.Intn(3))}
		x := must(press.Publish(i, keys))
		ends := min(i.Expires, 50)
		for _, now := range []int64{0, 1, ends - 1} {
			trust, e := trusts(pin, x, now)
			if want := [4]int64{3, i.Version, i.Version, i.Version}; e != api.OK || roles.Versions(trust) != want {
				t.Errorf("an edition: versions %v and error %d", roles.Versions(trust), e)
			}
			if trust.Aim.Size != int64(len(x.Bundle)) || trust.Aim.Chunk != 1000 || trust.Aim.Expires != i.Expires {
				t.Errorf("the targets record is %v", trust.Aim)
			}
		}
		for _, now := range []int64{ends, ends + 1, most} {
			if _, e := trusts(pin, x, now); e != api.ErrExpired {
				t.Errorf("an edition that has expired, or whose root has: error %d", e)
			}
		}
		for k := 1; k < 4; k++ {
			strange := keys
			strange[k] = someKeys(r, 700)
			if _, e := trusts(pin, must(press.Publish(i, strange)), 0); e != api.ErrThreshold {
				t.Errorf("a stranger's edition: error %d", e)
			}
			strange[k].Seeds = some(r, keys[k], int(keys[k].Need)-1)
			if _, e := trusts(pin, must(press.Publish(i, strange)), 0); e != api.ErrThreshold {
				t.Errorf("an edition that too few signed: error %d", e)
			}
		}
	}
}

// P16.4, W3, W5: keys are changed by a root that enough of the old ones and of its own sign.
func TestKeysAreChanged(t *testing.T) {
	t.Parallel()
	r := rand.New(rand.NewSource(2))
	for range 15 {
		old, young := someFour(r, 100), someFour(r, 200)
		a, b := some(r, old[0], int(old[0].Need)), some(r, young[0], int(young[0].Need))
		pin, e := roles.Pin(must(press.Root(1, 50, old, a...)))
		done(t, e)
		trust, e := roles.Rotate(pin, must(press.Root(2, 60, young, append(a, b...)...)))
		done(t, e)
		for _, l := range [][][]byte{a, b, slices.Concat(a[1:], b), slices.Concat(a, b[1:]), nil} {
			if _, e := roles.Rotate(pin, must(press.Root(2, 60, young, l...))); e != api.ErrThreshold {
				t.Errorf("a root that too few signed: error %d", e)
			}
		}
		x, y := must(press.Publish(usual(1), old)), must(press.Publish(usual(1), young))
		if _, e := trusts(pin, x, 0); e != api.OK {
			t.Errorf("an edition by the old keys, ahead of the root: error %d", e)
		}
		if _, e := trusts(trust, y, 59); e != api.OK {
			t.Errorf("an edition by the new keys, behind the root: error %d", e)
		}
		if _, e := trusts(pin, y, 0); e != api.ErrThreshold {
			t.Errorf("an edition by the new keys, ahead of the root: error %d", e)
		}
		if _, e := trusts(trust, x, 0); e != api.ErrThreshold {
			t.Errorf("an edition by the old keys, behind the root: error %d", e)
		}
	}
}

// P16.6: the same issue by the same keys is the same edition, whatever was published between; likewise roots and replies.
func TestTheSameAgain(t *testing.T) {
	t.Parallel()
	r := rand.New(rand.NewSource(3))
	for range 10 {
		keys := someFour(r, 100)
		i := press.Issue{Version: 1 + r.Int63n(9), Expires: r.Int63n(99), Chunk: 64 + r.Int63n(900), Vocab: learnt('x', r.Intn(5))}
		x := must(press.Publish(i, keys))
		b := must(press.Root(i.Version, 9, keys, keys[0].Seeds...))
		place := r.Intn(chunks(x))
		c := must(press.Chunk(x, place))
		must(press.Publish(usual(1), someFour(r, 300)))
		same(t, "published again", must(press.Publish(i, keys)), x)
		bytesAnswered(t, "the root again", must(press.Root(i.Version, 9, keys, keys[0].Seeds...)), 0, b, 0)
		bytesAnswered(t, "the chunk again", must(press.Chunk(x, place)), 0, c, 0)
	}
}

// keep tells of a call that changes the issue, the Keys, the edition or the roots that it is handed.
func keep(t *testing.T, what string, i *press.Issue, keys *[4]press.Keys, x *press.Edition, roots [][]byte, call func()) {
	t.Helper()
	was, wasKeys, wasEdition, wasRoots := told(*i), told(*keys), told(*x), told(roots)
	call()
	if told(*i) != was || told(*keys) != wasKeys || told(*x) != wasEdition || told(roots) != wasRoots {
		t.Errorf("%s changes what it is handed", what)
	}
}

// Rule 3: what is handed in is neither changed nor kept.
func TestWhatIsHandedInStays(t *testing.T) {
	i := usual(1)
	keys := [4]press.Keys{keysOf(1, 3, 1, 2, 1), keysOf(1, 6, 5), keysOf(1, 9, 8, 8), keysOf(2, 7, 2, 4)}
	x := must(press.Publish(i, keys))
	roots := rootsBehind(3)
	keep(t, "Role", &i, &keys, &x, roots, func() { must(press.Role(keys[0])) })
	signers := keys[3].Seeds
	keep(t, "Root", &i, &keys, &x, roots, func() { must(press.Root(1, 9, keys, signers...)) })
	keep(t, "Publish", &i, &keys, &x, roots, func() { must(press.Publish(i, keys)) })
	keep(t, "Chunk", &i, &keys, &x, roots, func() { must(press.Chunk(x, 1)) })
	for kind := aRoot; kind <= aChunk; kind++ {
		keep(t, "Answer", &i, &keys, &x, roots, func() { must(press.Answer(x, roots, updater.Want{Kind: kind, Version: 3})) })
	}
	y, role, b := must(press.Publish(i, keys)), must(press.Role(keys[0])), must(press.Root(1, 9, keys, signers...))
	is, isRole, isRoot := clone(y), told(role), bytes.Clone(b)
	for _, v := range i.Vocab.Tokens {
		clear(v.Bytes)
	}
	for _, k := range keys {
		for _, s := range k.Seeds {
			clear(s)
		}
	}
	same(t, "what was handed in is kept", y, is)
	if told(role) != isRole || !bytes.Equal(b, isRoot) {
		t.Error("Keys are kept")
	}
}

// alone clears bytes that were answered, and the room behind them.
func alone(b []byte) {
	clear(b[:cap(b)])
}

// Rule 3: what is answered is new memory, no part of which is shared.
func TestAnswersAreNewMemory(t *testing.T) {
	x := must(press.Publish(usual(1), four(1)))
	roots := rootsBehind(3)
	was, wasRoots := clone(x), told(roots)
	for kind := aRoot; kind <= aChunk; kind++ {
		for n := range 3 {
			b := must(press.Answer(x, roots, updater.Want{Kind: kind, Version: int64(2 + n), Place: n}))
			alone(b)
			alone(must(press.Chunk(x, n)))
		}
	}
	same(t, "replies share memory with the edition", x, was)
	if told(roots) != wasRoots {
		t.Error("replies share memory with the roots")
	}
	parts := func(e *press.Edition) [4]*[]byte { return [4]*[]byte{&e.Stamp, &e.Snap, &e.Aim, &e.Bundle} }
	for i := range 4 {
		y := must(press.Publish(usual(1), four(1)))
		part := parts(&y)[i]
		alone(*part)
		*part = *parts(&was)[i]
		same(t, "an edition's parts share memory", y, was)
	}
	k := press.Keys{Seeds: seedsFrom(1, 5), Need: 2}
	want := roleOf(k)
	role := must(press.Role(k))
	for i := range role.Keys {
		alone(role.Keys[i])
		role.Keys[i] = want.Keys[i]
		if told(role) != told(want) {
			t.Error("a role's keys share memory")
		}
	}
	alone(must(press.Role(k)).Keys[0])
	if told(must(press.Role(k))) != told(want) || told(k) != told(press.Keys{Seeds: seedsFrom(1, 5), Need: 2}) {
		t.Error("a role shares memory with another one, or with its seeds")
	}
}

// P1: arguments of chance, most of them wrong.
func TestEveryCallEnds(t *testing.T) {
	t.Parallel()
	r := rand.New(rand.NewSource(4))
	number := func() int64 {
		return append([]int64{0, 1, 2, 3, 16, 63, 64, 1000, 1024, most}, ends...)[r.Intn(19)]
	}
	piece := func() []byte {
		return make([]byte, []int{0, 1, 31, 32, 32, 32, 33, 64, 5000, 1 << 18}[r.Intn(10)])
	}
	pieces := func(n int) (l [][]byte) {
		for range r.Intn(n) {
			l = append(l, piece())
		}
		return l
	}
	vocabs := []api.Vocab{{}, letters(), learnt('x', 3), {Tokens: make([]api.Token, 300)}, {Merges: make([]api.Merge, 5)}}
	for range 2000 {
		var keys [4]press.Keys
		for i := range keys {
			keys[i] = press.Keys{Seeds: pieces(4), Need: number()}
			press.Role(keys[i])
		}
		press.Root(number(), number(), keys, pieces(40)...)
		i := press.Issue{Version: number(), Expires: number(), Chunk: number(), Vocab: vocabs[r.Intn(len(vocabs))]}
		if r.Intn(2) == 0 {
			i.Vocab.Merges = append(slices.Clone(i.Vocab.Merges), api.Merge{A: number(), B: number(), To: number()})
		}
		if x, e := press.Publish(i, keys); e != api.OK {
			same(t, "with an error", x, press.Edition{})
		}
		x := press.Edition{Stamp: piece(), Snap: piece(), Aim: piece(), Bundle: piece(), Chunk: number()}
		if b, e := press.Chunk(x, int(number())); e != api.OK && len(b) > 0 {
			t.Errorf("Chunk: %d bytes and error %d", len(b), e)
		}
		w := updater.Want{Kind: int(number()), Version: number(), Place: int(number())}
		if b, e := press.Answer(x, pieces(5), w); e != api.OK && len(b) > 0 {
			t.Errorf("Answer: %d bytes and error %d", len(b), e)
		}
	}
	press.Publish(press.Issue{Version: math.MaxInt64, Vocab: api.Vocab{Tokens: make([]api.Token, 1<<20), Merges: make([]api.Merge, 1<<20)}}, four(1))
	press.Publish(usual(1), [4]press.Keys{1: {Seeds: make([][]byte, 1<<20)}})
	press.Root(1, 1, four(1), make([][]byte, 1<<20)...)
}

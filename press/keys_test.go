package press_test

import (
	"bytes"
	"math"
	"math/rand"
	"slices"
	"testing"

	"imprimatur/api"
	"imprimatur/press"
)

// role tells of Keys whose role is another one.
func role(t *testing.T, what string, k press.Keys) {
	t.Helper()
	if r, e := press.Role(k); e != api.OK || told(r) != told(roleOf(k)) {
		t.Errorf("%s: Role: %v and error %d, not %v", what, r, e, roleOf(k))
	}
}

// noRole tells of Keys that are not refused so.
func noRole(t *testing.T, what string, k press.Keys, want api.Errno) {
	t.Helper()
	if r, e := press.Role(k); e != want || len(r.Keys) != 0 || r.Need != 0 {
		t.Errorf("%s: Role: %v and error %d, not %d", what, r, e, want)
	}
}

// P16.1
func TestRole(t *testing.T) {
	for n := 1; n <= 4; n++ {
		for need := 1; need <= n; need++ {
			role(t, "some seeds", press.Keys{Seeds: seedsFrom(7*n, n), Need: int64(need)})
		}
	}
	all := press.Keys{Seeds: seedsFrom(1, 16), Need: 16}
	role(t, "MaxKeys seeds", all)
	slices.Reverse(all.Seeds)
	role(t, "turned round", all)
	role(t, "a seed of bytes 0", press.Keys{Seeds: [][]byte{make([]byte, 32)}, Need: 1})
}

// P16.1: the keys rise, in whatever order the seeds stand, and each is there once.
func TestRoleOrder(t *testing.T) {
	r := rand.New(rand.NewSource(1))
	want, e := press.Role(keysOf(2, 1, 2, 3, 4, 5))
	done(t, e)
	for i := 1; i < len(want.Keys); i++ {
		if bytes.Compare(want.Keys[i-1], want.Keys[i]) >= 0 {
			t.Error("the keys do not rise")
		}
	}
	for range 30 {
		l := []int{1, 2, 3, 4, 5}
		for range r.Intn(20) {
			l = append(l, 1+r.Intn(5))
		}
		r.Shuffle(len(l), func(i, j int) { l[i], l[j] = l[j], l[i] })
		if got, e := press.Role(keysOf(2, l...)); e != api.OK || told(got) != told(want) {
			t.Errorf("the seeds %v: %v and error %d", l, got, e)
		}
	}
	role(t, "one seed, often", keysOf(1, 4, 4, 4, 4, 4, 4, 4, 4, 4, 4, 4, 4, 4, 4, 4, 4, 4, 4, 4, 4))
	role(t, "MaxKeys seeds, each twice", press.Keys{Seeds: slices.Concat(seedsFrom(1, 16), seedsFrom(1, 16)), Need: 16})
}

// P16.1: the example, how many keys there may be, and how many of them may have to sign.
func TestRoleBounds(t *testing.T) {
	noRole(t, "the example", press.Keys{}, api.ErrMeta)
	noRole(t, "no seeds", press.Keys{Need: 1}, api.ErrMeta)
	noRole(t, "17 seeds", press.Keys{Seeds: seedsFrom(1, 17), Need: 1}, api.ErrMeta)
	noRole(t, "17 seeds, all of which must sign", press.Keys{Seeds: seedsFrom(1, 17), Need: 17}, api.ErrMeta)
	noRole(t, "many seeds", press.Keys{Seeds: seedsFrom(1, 5000), Need: 1}, api.ErrMeta)
	for _, n := range []int{1, 2, 15, 16} {
		for _, need := range append([]int64{0, int64(n) + 1, 17, 100, most, math.MaxInt32}, ends...) {
			noRole(t, "a Need out of its bounds", press.Keys{Seeds: seedsFrom(1, n), Need: need}, api.ErrMeta)
		}
	}
	noRole(t, "more must sign than there are keys, as one is there twice", keysOf(3, 1, 2, 1), api.ErrMeta)
	noRole(t, "one seed must sign twice", keysOf(2, 1, 1), api.ErrMeta)
	many := make([][]byte, 1<<16)
	for i := range many {
		many[i] = seed(i % 16)
	}
	role(t, "MaxKeys seeds, often", press.Keys{Seeds: many, Need: 16})
}

// P16.1: ErrArg is asked ahead of all else.
func TestRoleSeeds(t *testing.T) {
	for _, size := range noSeeds {
		for i := range 3 {
			k := keysOf(1, 1, 2, 3)
			k.Seeds[i] = make([]byte, size)
			noRole(t, "a seed that is none", k, api.ErrArg)
			k.Need = 0
			noRole(t, "a seed that is none, and no Need", k, api.ErrArg)
		}
		k := press.Keys{Seeds: append(seedsFrom(1, 40), make([]byte, size)), Need: 1}
		noRole(t, "too many seeds, the last of which is none", k, api.ErrArg)
	}
	noRole(t, "a nil seed", press.Keys{Seeds: [][]byte{nil}}, api.ErrArg)
}

// root tells of a root that is another one.
func root(t *testing.T, what string, version, expires int64, keys [4]press.Keys, signers ...[]byte) {
	t.Helper()
	b, e := press.Root(version, expires, keys, signers...)
	bytesAnswered(t, what+": Root", b, e, rootBytes(version, expires, keys, signers...), api.OK)
}

// noRoot tells of a root that is not refused so.
func noRoot(t *testing.T, what string, want api.Errno, version, expires int64, keys [4]press.Keys, signers ...[]byte) {
	t.Helper()
	b, e := press.Root(version, expires, keys, signers...)
	bytesAnswered(t, what+": Root", b, e, nil, want)
}

// P16.1
func TestRoot(t *testing.T) {
	root(t, "a seed for each", 1, 90, four(1), seed(100))
	root(t, "no signers", 1, 90, four(1))
	root(t, "strangers", 2, 90, four(2), seeds(7, 8, 9)...)
	root(t, "signers in order, one of them twice", 2, 90, four(2), seeds(200, 100, 200)...)
	keys := [4]press.Keys{keysOf(2, 3, 1, 2), keysOf(1, 9, 8), keysOf(1, 4, 4), keysOf(5, 15, 11, 12, 14, 13)}
	root(t, "more seeds", 3, 90, keys, seeds(3, 1)...)
	var vast [4]press.Keys
	for i := range vast {
		vast[i] = press.Keys{Seeds: seedsFrom(1000*i, 16), Need: 16}
	}
	root(t, "the most keys, the most signers", most, most, vast, seedsFrom(1, 32)...)
	for _, v := range []int64{1, 2, 191, 192, 1 << 32, most - 1, most} {
		root(t, "a version", v, 1, four(1), seed(1))
	}
	for _, x := range []int64{0, 1, 191, 192, 1 << 32, most - 1, most} {
		root(t, "an expiry", 1, x, four(1), seed(1))
	}
}

// P16.1
func TestRootIsNotRight(t *testing.T) {
	noRoot(t, "the version 0", api.ErrMeta, 0, 9, four(1), seed(1))
	for _, x := range ends {
		noRoot(t, "no version", api.ErrMeta, x, 9, four(1), seed(1))
		noRoot(t, "no expiry", api.ErrMeta, 1, x, four(1), seed(1))
	}
	noRoot(t, "no Keys", api.ErrMeta, 1, 9, [4]press.Keys{}, seed(1))
	for i := range 4 {
		keys := four(1)
		keys[i].Need = 2
		noRoot(t, "too many must sign", api.ErrMeta, 1, 9, keys, seed(1))
		keys[i] = press.Keys{Need: 1}
		noRoot(t, "Keys without seeds", api.ErrMeta, 1, 9, keys, seed(1))
		keys[i] = press.Keys{Seeds: seedsFrom(1, 17), Need: 1}
		noRoot(t, "too many seeds", api.ErrMeta, 1, 9, keys, seed(1))
		for _, size := range noSeeds {
			keys[i] = press.Keys{Seeds: [][]byte{seed(1), make([]byte, size)}, Need: 1}
			noRoot(t, "a seed that is none", api.ErrArg, 1, 9, keys, seed(1))
		}
	}
}

// P16.1: Seal's errors.
func TestRootSigners(t *testing.T) {
	noRoot(t, "33 signers", api.ErrLong, 1, 9, four(1), seedsFrom(1, 33)...)
	noRoot(t, "33 signers, all the same", api.ErrLong, 1, 9, four(1), slices.Repeat(seeds(1), 33)...)
	for _, size := range noSeeds {
		for i := range 3 {
			l := slices.Insert(seeds(1, 2), i, make([]byte, size))
			noRoot(t, "a signer that is none", api.ErrArg, 1, 9, four(1), l...)
		}
		noRoot(t, "33 signers, one of which is none", api.ErrArg, 1, 9, four(1), append(seedsFrom(1, 32), make([]byte, size))...)
	}
}

// P16.1: Role's errors of the four, in order; then the root's; then Seal's.
func TestRootErrorsInOrder(t *testing.T) {
	bad, late := keysOf(2, 1), press.Keys{Seeds: [][]byte{{1}}, Need: 1}
	for i := range 4 {
		for j := range i {
			keys := four(1)
			keys[i], keys[j] = bad, late
			noRoot(t, "a seed that is none, then no right role", api.ErrArg, 1, 9, keys, seed(1))
			keys[i], keys[j] = late, bad
			noRoot(t, "no right role, then a seed that is none", api.ErrMeta, 1, 9, keys, seed(1))
		}
		keys := four(1)
		keys[i] = late
		noRoot(t, "a seed that is none, and no version", api.ErrArg, 0, 9, keys, seed(1))
		noRoot(t, "a seed that is none, and too many signers", api.ErrArg, 1, 9, keys, seedsFrom(1, 33)...)
		keys[i] = bad
		noRoot(t, "no right role, and a signer that is none", api.ErrMeta, 1, 9, keys, nil)
		noRoot(t, "no right role, and too many signers", api.ErrMeta, 1, 9, keys, seedsFrom(1, 33)...)
	}
	noRoot(t, "no version, and a signer that is none", api.ErrMeta, 0, 9, four(1), nil)
	noRoot(t, "no expiry, and too many signers", api.ErrMeta, 1, -1, four(1), seedsFrom(1, 33)...)
}

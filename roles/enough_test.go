package roles_test

import (
	"bytes"
	"crypto/ed25519"
	"math"
	"math/rand"
	"slices"
	"testing"

	"imprimatur/api"
	"imprimatur/roles"
)

// enough tells of a Signed that is enough, or is not, other than it must.
func enough(t *testing.T, what string, r api.Role, s api.Signed, want bool) {
	t.Helper()
	if got := roles.Enough(r, s); got != want {
		t.Errorf("Enough, %s: %t", what, got)
	}
}

// P10.1, W3: of any keys of a role so many must have signed.
func TestEnough(t *testing.T) {
	body := []byte("abc")
	for n := 1; n <= 4; n++ {
		seeds := []int{1, 2, 3, 4}[:n]
		for need := int64(1); need <= 5; need++ {
			for signers := range 1 << 5 { // the fifth seed's key is in no role
				s := api.Signed{Kind: 2, Body: body}
				for i := range 5 {
					if signers>>i&1 == 1 {
						s.Sigs = append(s.Sigs, sigOf(2, body, i+1))
					}
				}
				have := int64(0)
				for i := range n {
					have += int64(signers >> i & 1)
				}
				enough(t, "some of the keys", roleOf(need, seeds...), s, have >= need)
			}
		}
	}
}

// P10.1: of each kind, and of the greatest role and the most signatures.
func TestEnoughEdges(t *testing.T) {
	var sixteen, others []int
	for i := range 16 {
		sixteen = append(sixteen, i+1)
		others = append(others, i+101)
	}
	for kind := range int64(4) {
		for _, body := range [][]byte{nil, {0}, make([]byte, 4000), make([]byte, api.MaxMeta)} {
			s := signedOf(kind, body, append(others, sixteen...)...)
			enough(t, "all of sixteen", roleOf(16, sixteen...), s, true)
			enough(t, "all of sixteen, none of whom is asked", roleOf(1, 200), s, false)
			s.Sigs = s.Sigs[:31]
			enough(t, "fifteen of sixteen", roleOf(16, sixteen...), s, false)
			enough(t, "fifteen, as many as must", roleOf(15, sixteen...), s, true)
		}
	}
}

// P10.1: without a message nothing is enough.
func TestEnoughWithoutMessage(t *testing.T) {
	for _, need := range []int64{math.MinInt64, -1, 0, 1, 2} {
		for _, kind := range []int64{-1, 4, 5, 256, math.MinInt64, math.MaxInt64} {
			s := signedOf(0, []byte("abc"), 1, 2)
			s.Kind = kind
			enough(t, "no kind", roleOf(need, 1, 2), s, false)
			enough(t, "no kind, no keys", api.Role{Need: need}, s, false)
		}
		for _, n := range []int{api.MaxMeta + 1, 10000, 1 << 16, 1 << 20} {
			for kind := range int64(4) {
				s := signedOf(kind, nil, 1, 2)
				s.Body = make([]byte, n)
				enough(t, "a body that is too long", roleOf(need, 1, 2), s, false)
				enough(t, "a body that is too long, no keys", api.Role{Need: need}, s, false)
			}
		}
	}
}

// P10.1: with a message nobody is needed for a Need of 0 or less, and nobody can be so many as there are not.
func TestEnoughOfOddRoles(t *testing.T) {
	s := signedOf(1, []byte("abc"), 1, 2)
	bare := signedOf(1, []byte("abc"))
	for _, need := range []int64{0, -1, math.MinInt64} {
		enough(t, "a Need of none", roleOf(need, 1, 2), s, true)
		enough(t, "a Need of none, no signature", roleOf(need, 1, 2), bare, true)
		enough(t, "a Need of none, no keys", api.Role{Need: need}, bare, true)
	}
	for _, need := range []int64{1, 2, math.MaxInt64} {
		enough(t, "no keys", api.Role{Need: need}, s, false)
		enough(t, "no signature", roleOf(need, 1, 2), bare, false)
	}
	for _, need := range []int64{3, 17, 1 << 32, 1<<32 + 1, math.MaxInt64} {
		enough(t, "a Need above the keys", roleOf(need, 1, 2), s, false)
	}
	// Keys that do not rise, and more than a record may have.
	back := roleOf(2, 1, 2)
	slices.Reverse(back.Keys)
	enough(t, "keys that fall", back, s, true)
	var many []int
	for i := range 40 {
		many = append(many, i+1)
	}
	enough(t, "forty keys and signatures", roleOf(40, many...), signedOf(1, nil, many...), true)
	enough(t, "forty keys, one without a signature", roleOf(40, many...), signedOf(1, nil, many[1:]...), false)
}

// P10.1, P10.8: a key, or a signature, that is there twice counts once.
func TestTwiceCountsOnce(t *testing.T) {
	body := []byte("abc")
	one := sigOf(3, body, 1)
	for n := 1; n <= 32; n++ {
		s := api.Signed{Kind: 3, Body: body, Sigs: slices.Repeat([]api.Sig{one}, n)}
		enough(t, "a signature more than once, for one", roleOf(1, 1, 2, 3), s, true)
		enough(t, "a signature more than once, for two", roleOf(2, 1, 2, 3), s, false)
		role := api.Role{Keys: slices.Repeat([][]byte{keyOf(1)}, n), Need: 2}
		enough(t, "a key more than once", role, s, false)
		enough(t, "a key more than once, signed once", role, signedOf(3, body, 1), false)
		role.Keys = append(role.Keys, keyOf(2))
		enough(t, "a key more than once, and another one", role, signedOf(3, body, 1, 2), true)
		role.Need = 3
		enough(t, "a key more than once, and another one, for three", role, signedOf(3, body, 1, 2, 1, 2, 1), false)
	}
}

// P10.1: a signature must be proved by the key it stands with, of that kind and body.
func TestEnoughNeedsProof(t *testing.T) {
	body := []byte("abc")
	role := roleOf(1, 1, 2)
	good := sigOf(1, body, 1)
	wrong := map[string]api.Sig{
		"of another kind":             sigOf(2, body, 1),
		"of another body":             sigOf(1, []byte("abd"), 1),
		"of a shorter body":           sigOf(1, []byte("ab"), 1),
		"with another one's key":      {Key: keyOf(2), Sig: good.Sig},
		"with a key of no role":       {Key: keyOf(3), Sig: good.Sig},
		"by a stranger, with the key": {Key: keyOf(1), Sig: sigOf(1, body, 3).Sig},
		"of the body alone":           {Key: keyOf(1), Sig: ed25519.Sign(private(1), body)},
		"without a key":               {Sig: good.Sig},
		"without a signature":         {Key: keyOf(1)},
		"cut off":                     {Key: keyOf(1), Sig: good.Sig[:63]},
		"with more behind":            {Key: keyOf(1), Sig: append(bytes.Clone(good.Sig), 0)},
		"of zeros":                    {Key: keyOf(1), Sig: make([]byte, 64)},
		"with a part of the key":      {Key: keyOf(1)[:31], Sig: good.Sig},
		"with the key and more":       {Key: append(keyOf(1), 0), Sig: good.Sig},
	}
	for name, x := range wrong {
		enough(t, "one "+name, role, api.Signed{Kind: 1, Body: body, Sigs: []api.Sig{x}}, false)
		// What is wrong takes nothing from what is right, wherever it stands.
		enough(t, "a right one behind one "+name, role, api.Signed{Kind: 1, Body: body, Sigs: []api.Sig{x, good}}, true)
		enough(t, "a right one ahead of one "+name, role, api.Signed{Kind: 1, Body: body, Sigs: []api.Sig{good, x}}, true)
		two := role
		two.Need = 2
		enough(t, "a right one for two, and one "+name, two, api.Signed{Kind: 1, Body: body, Sigs: []api.Sig{x, good, x}}, false)
	}
	for i := range 64 {
		x := api.Sig{Key: good.Key, Sig: bytes.Clone(good.Sig)}
		x.Sig[i] ^= 1 << (i % 8)
		enough(t, "one that is spoilt", role, api.Signed{Kind: 1, Body: body, Sigs: []api.Sig{x}}, false)
	}
}

// P10.1: keys that are none, though they are a role's.
func TestEnoughOfOddKeys(t *testing.T) {
	body := []byte("abc")
	good := sigOf(1, body, 1)
	for _, key := range [][]byte{nil, {}, {1}, keyOf(1)[:31], append(keyOf(1), 0), bytes.Repeat([]byte{255}, 32), append([]byte{2}, make([]byte, 31)...), make([]byte, 64)} {
		s := api.Signed{Kind: 1, Body: body, Sigs: []api.Sig{{Key: key, Sig: good.Sig}, {Key: key, Sig: nil}, {Key: key, Sig: make([]byte, 64)}}}
		enough(t, "a key that is none", api.Role{Keys: [][]byte{key}, Need: 1}, s, false)
		enough(t, "a key that is none, signed by another one", api.Role{Keys: [][]byte{key}, Need: 1}, signedOf(1, body, 1), false)
		s.Sigs = append(s.Sigs, good)
		enough(t, "a key that is none beside one", api.Role{Keys: [][]byte{key, keyOf(1)}, Need: 1}, s, true)
		enough(t, "a key that is none beside one, for two", api.Role{Keys: [][]byte{key, keyOf(1)}, Need: 2}, s, false)
	}
}

// P10.8: the order plays no part, nor do signatures twice, nor those of keys that are in no role.
func TestOrderPlaysNoPart(t *testing.T) {
	r := rand.New(rand.NewSource(8))
	body := []byte("abc")
	for range 200 {
		var seeds, signers []int
		for i := range 6 {
			if r.Intn(2) == 0 {
				seeds = append(seeds, i)
			}
			if r.Intn(2) == 0 {
				signers = append(signers, i)
			}
		}
		role := roleOf(1+r.Int63n(5), seeds...)
		s := signedOf(1, body, signers...)
		want := roles.Enough(role, s)
		for range 4 {
			for range r.Intn(4) {
				s.Sigs = append(s.Sigs, sigOf(1, body, 50+r.Intn(3)))
				s.Sigs = append(s.Sigs, s.Sigs[r.Intn(len(s.Sigs))])
			}
			r.Shuffle(len(s.Sigs), func(i, j int) { s.Sigs[i], s.Sigs[j] = s.Sigs[j], s.Sigs[i] })
			r.Shuffle(len(role.Keys), func(i, j int) { role.Keys[i], role.Keys[j] = role.Keys[j], role.Keys[i] })
			enough(t, "in another order", role, s, want)
		}
	}
}

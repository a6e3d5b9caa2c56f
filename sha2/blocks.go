package sha2

// word is what a digest is reckoned with.
type word interface {
	uint32 | uint64
}

// turns are by how much a word is turned right, or moved, each of three times.
type turns struct {
	a, b, c uint
}

// kind is what one of the two digests has otherwise than the other.
type kind struct {
	width          uint  // binary digits of a word
	rounds         int   // as many as a block makes words
	small0, small1 turns // s0 and s1 of the document: turned, turned, moved
	great0, great1 turns // S0 and S1: turned all three times
}

// kindOf is the kind of a digest by 256 or by 512.
func kindOf(bits int) kind {
	if bits == bits256 {
		return kind{
			width: 32, rounds: 64,
			small0: turns{7, 18, 3}, small1: turns{17, 19, 10},
			great0: turns{2, 13, 22}, great1: turns{6, 11, 25},
		}
	}
	return kind{
		width: 64, rounds: 80,
		small0: turns{1, 8, 7}, small1: turns{19, 61, 6},
		great0: turns{28, 34, 39}, great1: turns{14, 18, 41},
	}
}

// turned is a word turned right by n of its width binary digits.
func turned[W word](x W, n, width uint) W {
	return x>>n | x<<(width-n)
}

// small is small0 or small1 of a word that a block makes.
func small[W word](x W, by turns, width uint) W {
	return turned(x, by.a, width) ^ turned(x, by.b, width) ^ x>>by.c
}

// great is great0 or great1 of one of the eight words.
func great[W word](x W, by turns, width uint) W {
	return turned(x, by.a, width) ^ turned(x, by.b, width) ^ turned(x, by.c, width)
}

// joined is the word that bytes are, the greatest one first.
func joined[W word](b []byte) W {
	var x W
	for _, y := range b {
		x = x<<8 | W(y)
	}
	return x
}

// made is the words that a block makes.
func made[W word](k kind, block []byte) [80]W {
	var w [80]W
	size := int(k.width / 8)
	for t := range 16 {
		w[t] = joined[W](block[t*size : (t+1)*size])
	}
	for t := 16; t < k.rounds; t++ {
		w[t] = w[t-16] + small(w[t-15], k.small0, k.width) + w[t-7] + small(w[t-2], k.small1, k.width)
	}
	return w
}

// mixed is the eight words h, mixed with those that a block made.
func mixed[W word](k kind, h [8]W, w [80]W) [8]W {
	a, b, c, d, e, f, g, last := h[0], h[1], h[2], h[3], h[4], h[5], h[6], h[7]
	for t := range k.rounds {
		ch := e&f ^ ^e&g
		ma := a&b ^ a&c ^ b&c
		x := last + great(e, k.great1, k.width) + ch + W(constants[t]>>(64-k.width)) + w[t]
		y := great(a, k.great0, k.width) + ma
		last, g, f, e, d, c, b, a = g, f, e, d+x, c, b, a, x+y
	}
	return [8]W{a, b, c, d, e, f, g, last}
}

// behind is the eight words of a digest behind one block more; they stand in 64 binary digits each, whatever their width.
func behind[W word](k kind, words [8]uint64, block []byte) [8]uint64 {
	var h [8]W
	for i, x := range words {
		h[i] = W(x)
	}
	m := mixed(k, h, made[W](k, block))
	for i := range h {
		words[i] = uint64(h[i] + m[i])
	}
	return words
}

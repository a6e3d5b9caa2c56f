package bpe

// heap is things of which the first one is had, by an order that it is made with.
type heap[T any] struct {
	ahead func(a, b T) bool
	items []T // none is ahead of the one at half its place, counted from 1 on
}

// heapBy is a heap without things, by an order.
func heapBy[T any](ahead func(a, b T) bool) *heap[T] {
	return &heap[T]{ahead: ahead}
}

// push puts a thing in.
func (h *heap[T]) push(x T) {
	h.items = append(h.items, x)
	for at := len(h.items) - 1; at > 0; {
		up := (at - 1) / 2
		if !h.before(at, up) {
			return
		}
		h.swap(at, up)
		at = up
	}
}

// pop takes the first thing out, if there is one.
func (h *heap[T]) pop() (T, bool) {
	var none T
	if len(h.items) == 0 {
		return none, false
	}
	last := len(h.items) - 1
	h.swap(0, last)
	first := h.items[last]
	h.items = h.items[:last]
	h.sink()
	return first, true
}

// sink puts the thing at the top where it belongs.
func (h *heap[T]) sink() {
	at := 0
	for {
		first := at
		for _, down := range [...]int{2*at + 1, 2*at + 2} {
			if down < len(h.items) && h.before(down, first) {
				first = down
			}
		}
		if first == at {
			return
		}
		h.swap(at, first)
		at = first
	}
}

// before tells whether the thing at a place is ahead of the one at another.
func (h *heap[T]) before(i, j int) bool {
	return h.ahead(h.items[i], h.items[j])
}

func (h *heap[T]) swap(i, j int) {
	h.items[i], h.items[j] = h.items[j], h.items[i]
}

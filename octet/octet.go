// Package octet encodes and decodes big-endian unsigned integers in byte slices (layer 1).
package octet

import (
	"counterfoil/api"
)

// widest is how many bytes the widest integer has.
const widest = 8

// Put returns b followed by the low size bytes of n, most significant byte first.
func Put(b []byte, n uint64, size int) []byte {
	size = min(max(size, 0), widest)
	// A new slice, because the spare capacity of b belongs to the caller.
	out := make([]byte, len(b)+size)
	copy(out, b)
	for i := range size {
		out[len(b)+i] = byte(n >> (8 * (size - 1 - i)))
	}
	return out
}

// Set returns b with size bytes from index at on replaced by the low bytes of n;
// ErrShort: they do not all lie within b.
func Set(b []byte, at int, n uint64, size int) ([]byte, api.Errno) {
	if size < 1 || size > widest || at < 0 || at > len(b)-size {
		return nil, api.ErrShort
	}
	out := make([]byte, len(b))
	copy(out, b)
	copy(out[at:], Put(nil, n, size))
	return out, api.OK
}

// Equal reports whether a and b have the same bytes.
func Equal(a, b []byte) bool {
	return string(a) == string(b)
}

// Reader consumes integers and bytes from the front of a byte slice.
// What is missing reads as 0, and makes the Reader bad.
type Reader struct {
	left []byte
	bad  bool
}

// Read returns a Reader that starts at the beginning of b.
func Read(b []byte) *Reader {
	// A copy of its own lets the Reader hand out pieces that no caller's slice shares.
	own := make([]byte, len(b))
	copy(own, b)
	return &Reader{left: own}
}

// take consumes n bytes; if there are fewer, it consumes all of them and the Reader is bad.
func (r *Reader) take(n int) []byte {
	if r == nil {
		return nil
	}
	if n < 0 || n > len(r.left) {
		r.left, r.bad = nil, true
		return nil
	}
	// The capacity ends with the piece, so that appending to it cannot reach the bytes that are left.
	piece := r.left[:n:n]
	r.left = r.left[n:]
	return piece
}

// Num consumes an integer of size bytes.
func (r *Reader) Num(size int) uint64 {
	if size > widest {
		size = -1 // take refuses it, however many bytes remain
	}
	n := uint64(0)
	for _, c := range r.take(size) {
		n = n<<8 | uint64(c)
	}
	return n
}

// Byte consumes an integer of one byte.
func (r *Reader) Byte() byte {
	return byte(r.Num(1))
}

// Word consumes an integer of two bytes.
func (r *Reader) Word() uint16 {
	return uint16(r.Num(2))
}

// Long consumes an integer of four bytes.
func (r *Reader) Long() uint32 {
	return uint32(r.Num(4))
}

// Bytes consumes the next n bytes.
func (r *Reader) Bytes(n int) []byte {
	return r.take(n)
}

// Rest consumes all remaining bytes.
func (r *Reader) Rest() []byte {
	return r.take(r.Left())
}

// Left returns the number of remaining bytes.
func (r *Reader) Left() int {
	if r == nil {
		return 0
	}
	return len(r.left)
}

// Bad reports whether something was missing.
func (r *Reader) Bad() bool {
	return r == nil || r.bad
}

// Package octet reads and writes numbers in bytes, the most significant byte
// first: see DOC.md, chapter 1.
package octet

// Reader reads a list of bytes from the first one on.
type Reader struct {
	rest  []byte
	short bool
}

// Read keeps a copy of b, as the caller may change b before it is read.
func Read(b []byte) *Reader { return &Reader{rest: join(b)} }

// U8 reads a number of one byte.
func (r *Reader) U8() int { return int(r.number(1)) }

// U16 reads a number of two bytes.
func (r *Reader) U16() int { return int(r.number(2)) }

// U32 reads a number of four bytes.
func (r *Reader) U32() uint32 { return r.number(4) }

// Bytes returns a copy of the next n bytes, as the caller may change it, and
// append to it, while the Reader and earlier results remain as they are.
func (r *Reader) Bytes(n int) []byte { return join(r.take(n)) }

// Left returns the number of bytes that are left.
func (r *Reader) Left() int { return len(r.rest) }

// Short reports whether a call needed more bytes than were left.
func (r *Reader) Short() bool { return r.short }

// U16 returns b followed by the lowest 16 bits of v.
func U16(b []byte, v int) []byte { return join(b, byte(v>>8), byte(v)) }

// U32 returns b followed by v.
func U32(b []byte, v uint32) []byte {
	return join(b, byte(v>>24), byte(v>>16), byte(v>>8), byte(v))
}

// take returns the next n bytes in the Reader's own memory. Once it fails,
// nothing is left for later calls, so that these are short, too.
func (r *Reader) take(n int) []byte {
	if n < 0 || n > len(r.rest) {
		r.rest, r.short = nil, true
		return nil
	}
	taken := r.rest[:n]
	r.rest = r.rest[n:]
	return taken
}

func (r *Reader) number(n int) uint32 {
	v := uint32(0)
	for _, c := range r.take(n) {
		v = v<<8 | uint32(c)
	}
	return v
}

// join always makes new memory: append to b itself could write into the spare
// capacity of b, or share it with an earlier result.
func join(b []byte, tail ...byte) []byte {
	joined := make([]byte, 0, len(b)+len(tail))
	joined = append(joined, b...)
	return append(joined, tail...)
}

package code

// Reader takes numbers and texts from the front of bytes. Where they end too early it gives zero values, and is short from then on: so one asks once, at the end.
type Reader struct {
	rest  []byte
	short bool
}

// NewReader reads these bytes; it does not change them.
func NewReader(b []byte) *Reader { return &Reader{rest: b} }

// Short tells whether there was less than was asked for.
func (r *Reader) Short() bool { return r.short }

// Done tells whether all was read, and there was all that was asked for.
func (r *Reader) Done() bool { return !r.short && len(r.rest) == 0 }

// take gives the next n bytes, or nil.
func (r *Reader) take(n int) []byte {
	if r.short || n > len(r.rest) {
		r.short = true
		return nil
	}
	b := r.rest[:n]
	r.rest = r.rest[n:]
	return b
}

// number reads a number of n bytes, its lowest byte first.
func (r *Reader) number(n int) uint64 {
	sum := uint64(0)
	for i, x := range r.take(n) {
		sum |= uint64(x) << (8 * i)
	}
	return sum
}

// Byte reads a number of 8 bits.
func (r *Reader) Byte() uint8 { return uint8(r.number(1)) }

// Word reads a number of 32 bits.
func (r *Reader) Word() uint32 { return uint32(r.number(4)) }

// Long reads a number of 64 bits.
func (r *Reader) Long() uint64 { return r.number(8) }

// Text reads a text.
func (r *Reader) Text() string { return string(r.take(int(r.Byte()))) }

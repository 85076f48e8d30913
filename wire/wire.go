// Package wire is layer 1: plain numbers and bytes laid one behind the other, and taken off again; there is one way alone to lay each thing.
package wire

import "notary/api"

// A Uvar is laid in groups of seven bits; moreGroups is added to each byte that has another one behind it.
const (
	groupBits  = 7
	moreGroups = 1 << groupBits
	mostGroups = 10 // of 64 bits the tenth group holds the highest alone, so it can only be 1
)

// Writer lays plain things one behind the other. The zero Writer has nothing written yet.
type Writer struct {
	laid []byte
}

// U8 lays one byte.
func (w *Writer) U8(v uint8) { w.number(uint64(v), 1) }

// U16 lays two bytes, the highest first.
func (w *Writer) U16(v uint16) { w.number(uint64(v), 2) }

// U32 lays four bytes, the highest first.
func (w *Writer) U32(v uint32) { w.number(uint64(v), 4) }

// U64 lays eight bytes, the highest first.
func (w *Writer) U64(v uint64) { w.number(v, 8) }

func (w *Writer) number(v uint64, size int) {
	if w == nil {
		return
	}
	for i := size - 1; i >= 0; i-- {
		w.laid = append(w.laid, byte(v>>(8*i)))
	}
}

// Uvar lays the number in groups of seven bits, the lowest first, as few as can be.
func (w *Writer) Uvar(v uint64) {
	if w == nil {
		return
	}
	for ; v >= moreGroups; v >>= groupBits {
		w.laid = append(w.laid, byte(v)|moreGroups)
	}
	w.laid = append(w.laid, byte(v))
}

// Raw lays the bytes as they are.
func (w *Writer) Raw(p []byte) {
	if w == nil {
		return
	}
	w.laid = append(w.laid, p...)
}

// Blob lays the bytes' count as a Uvar, and the bytes behind it.
func (w *Writer) Blob(p []byte) {
	w.Uvar(uint64(len(p)))
	w.Raw(p)
}

// Bytes answers all that was written, in new memory.
func (w *Writer) Bytes() []byte {
	if w == nil {
		return nil
	}
	return cloned(w.laid)
}

// Len answers how many bytes were written.
func (w *Writer) Len() int {
	if w == nil {
		return 0
	}
	return len(w.laid)
}

// Reader takes plain things off bytes. Behind its first fault it answers zero values and stays where it is. The zero Reader is one over no bytes.
type Reader struct {
	given []byte
	at    int
	fault api.Errno
}

// NewReader answers a Reader at the beginning of the bytes that p has now.
func NewReader(p []byte) *Reader { return &Reader{given: cloned(p)} }

// U8 takes off one byte.
func (r *Reader) U8() uint8 { return uint8(r.number(1)) }

// U16 takes off a number of two bytes.
func (r *Reader) U16() uint16 { return uint16(r.number(2)) }

// U32 takes off a number of four bytes.
func (r *Reader) U32() uint32 { return uint32(r.number(4)) }

// U64 takes off a number of eight bytes.
func (r *Reader) U64() uint64 { return r.number(8) }

func (r *Reader) number(size int) uint64 {
	if r.Err() != api.OK {
		return 0
	}
	left := r.left()
	if size > len(left) {
		r.fault = api.ErrForm
		return 0
	}
	r.at += size
	var v uint64
	for _, b := range left[:size] {
		v = v<<8 | uint64(b)
	}
	return v
}

// Uvar takes off a number in groups of seven bits.
func (r *Reader) Uvar() uint64 {
	if r.Err() != api.OK {
		return 0
	}
	v, size := firstUvar(r.left())
	if size == 0 {
		r.fault = api.ErrForm
		return 0
	}
	r.at += size
	return v
}

// Raw takes off the next n bytes.
func (r *Reader) Raw(n int) []byte {
	if r.Err() != api.OK {
		return nil
	}
	left := r.left()
	switch {
	case n < 0:
		r.fault = api.ErrArg
		return nil
	case n > len(left):
		r.fault = api.ErrForm
		return nil
	}
	r.at += n
	return cloned(left[:n])
}

// Blob takes off a count, of at most most, and so many bytes behind it.
func (r *Reader) Blob(most int) []byte {
	if r.Err() != api.OK {
		return nil
	}
	left := r.left()
	count, size := firstUvar(left)
	switch {
	case most < 0:
		r.fault = api.ErrArg
		return nil
	case size == 0:
		r.fault = api.ErrForm
		return nil
	case count > uint64(most): // ahead of the bytes that are left: the lesser number of the two errors
		r.fault = api.ErrLong
		return nil
	case count > uint64(len(left)-size):
		r.fault = api.ErrForm
		return nil
	}
	end := size + int(count)
	r.at += end
	return cloned(left[size:end])
}

// At answers the place of the next byte.
func (r *Reader) At() int {
	if r == nil {
		return 0
	}
	return r.at
}

// Err answers the first fault, or OK.
func (r *Reader) Err() api.Errno {
	if r == nil {
		return api.ErrNone
	}
	return r.fault
}

// Done answers the first fault; ErrForm where there is none and bytes are left; or OK.
func (r *Reader) Done() api.Errno {
	if e := r.Err(); e != api.OK {
		return e
	}
	if len(r.left()) > 0 {
		return api.ErrForm
	}
	return api.OK
}

func (r *Reader) left() []byte { return r.given[r.at:] }

// firstUvar answers the Uvar with which p begins and its count of bytes; a count of 0 where p does not begin with one.
func firstUvar(p []byte) (uint64, int) {
	var v uint64
	for i, b := range p {
		if i == mostGroups-1 && b != 1 {
			return 0, 0
		}
		v |= uint64(b%moreGroups) << (groupBits * i)
		if b >= moreGroups {
			continue
		}
		if b == 0 && i > 0 { // a shorter way to lay the same number
			return 0, 0
		}
		return v, i + 1
	}
	return 0, 0
}

func cloned(p []byte) []byte {
	q := make([]byte, len(p))
	copy(q, p)
	return q
}

// Package wire is layer 1: see shared/doc/01-wire.md.
package wire

import (
	"slices"

	"hindcast/api"
)

const (
	groupBits = 7   // bits of a number in one byte
	more      = 128 // added to a byte behind which the number goes on
	lastByte  = 9   // the index of the longest number's last byte, which has one bit of 64 only
)

// PutInt puts a number behind bytes.
func PutInt(b []byte, n int) []byte {
	return slices.Concat(b, intBytes(n))
}

// PutBool puts a truth behind bytes.
func PutBool(b []byte, is bool) []byte {
	x := []byte{0}
	if is {
		x[0] = 1
	}
	return slices.Concat(b, x)
}

// PutText puts a text behind bytes.
func PutText(b []byte, s string) []byte {
	return slices.Concat(b, intBytes(len(s)), []byte(s))
}

func intBytes(n int) []byte {
	var b []byte
	f := fold(n)
	for ; f >= more; f >>= groupBits {
		b = append(b, byte(f)|more)
	}
	return append(b, byte(f))
}

func fold(n int) uint64 {
	f := uint64(n) << 1
	if n < 0 {
		return ^f
	}
	return f
}

func unfold(f uint64) int {
	n := int(f >> 1)
	if f&1 == 1 {
		return ^n
	}
	return n
}

// Reader reads bytes.
type Reader struct {
	made bool // tells a reader of no bytes from one that NewReader did not make
	b    []byte
	at   int
	err  api.Errno
}

// NewReader tells a reader of bytes.
func NewReader(b []byte) *Reader {
	// The bytes stay their owner's, who may change them while the reader goes on.
	return &Reader{made: true, b: slices.Clone(b)}
}

// Int reads a number.
func (r *Reader) Int() int { return read(r, getInt) }

// Bool reads a truth.
func (r *Reader) Bool() bool { return read(r, getBool) }

// Count reads a number that is not below 0, nor above another one.
func (r *Reader) Count(most int) int {
	return read(r, func(b []byte) (int, int, api.Errno) { return getCount(b, most) })
}

// Text reads a text.
func (r *Reader) Text(most int) string {
	return read(r, func(b []byte) (string, int, api.Errno) { return getText(b, most) })
}

// At tells where the reader stands.
func (r *Reader) At() int {
	if r == nil {
		return 0
	}
	return r.at
}

// Err tells what went wrong.
func (r *Reader) Err() api.Errno {
	if r == nil || !r.made {
		return api.ErrNil
	}
	return r.err
}

// End tells whether all was read.
func (r *Reader) End() api.Errno {
	if err := r.Err(); err != api.OK {
		return err
	}
	if r.at < len(r.b) {
		return api.ErrBig
	}
	return api.OK
}

// read has get tell what the bytes begin with at which the reader stands, and how many of them that takes.
// A reader that is not well stays as it is, so that the first thing that went wrong is the one that is told.
func read[T any](r *Reader, get func(b []byte) (T, int, api.Errno)) T {
	var zero T
	if r.Err() != api.OK {
		return zero
	}
	v, size, err := get(r.b[r.at:])
	if err != api.OK {
		r.err = err
		return zero
	}
	r.at += size
	return v
}

func getInt(b []byte) (int, int, api.Errno) {
	f := uint64(0)
	for i, x := range b {
		if i > 0 && x == 0 || i == lastByte && x != 1 {
			return 0, 0, api.ErrFormat
		}
		f |= uint64(x&^more) << (groupBits * i)
		if x < more {
			return unfold(f), i + 1, api.OK
		}
	}
	return 0, 0, api.ErrShort
}

func getBool(b []byte) (bool, int, api.Errno) {
	switch {
	case len(b) == 0:
		return false, 0, api.ErrShort
	case b[0] > 1:
		return false, 0, api.ErrFormat
	}
	return b[0] == 1, 1, api.OK
}

func getCount(b []byte, most int) (int, int, api.Errno) {
	n, size, err := getInt(b)
	switch {
	case err != api.OK:
		return 0, 0, err
	case n < 0:
		return 0, 0, api.ErrFormat
	case n > max(most, 0):
		return 0, 0, api.ErrBig
	}
	return n, size, api.OK
}

func getText(b []byte, most int) (string, int, api.Errno) {
	n, size, err := getCount(b, most)
	if err != api.OK {
		return "", 0, err
	}
	if n > len(b)-size {
		return "", 0, api.ErrShort
	}
	return string(b[size : size+n]), size + n, api.OK
}

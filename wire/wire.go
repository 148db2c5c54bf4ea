// Package wire: bytes as images and code have them, and lists of what is made of them.
package wire

import (
	"strings"

	"cinder/api"
	"cinder/fault"
)

// Builder gathers bytes; its zero value has none.
type Builder struct{ made []byte }

// Len tells how many bytes there are by now.
func (b *Builder) Len() int { return len(b.made) }

// String is all bytes.
func (b *Builder) String() string { return string(b.made) }

// Count is written as one byte.
func (b *Builder) Count(n int) { b.made = append(b.made, byte(n)) }

// Number is written as two bytes, the upper one first; of one below 0 they are those of 65536 more.
func (b *Builder) Number(n int) { b.made = append(b.made, byte(n>>8), byte(n)) }

// Bytes are written as they are.
func (b *Builder) Bytes(s string) { b.made = append(b.made, s...) }

// Text is written as a count and its bytes.
func (b *Builder) Text(s string) {
	b.Count(len(s))
	b.Bytes(s)
}

// Reader goes through bytes; it gives up, by ErrForm, where they end too early.
type Reader struct {
	text string
	at   int
}

// NewReader of a text.
func NewReader(s string) Reader { return Reader{text: s} }

// At which byte it is.
func (r *Reader) At() int { return r.at }

// Left tells how many bytes there are from here on.
func (r *Reader) Left() int { return len(r.text) - r.at }

func (r *Reader) take(n int) string {
	fault.DemandAt(n <= r.Left(), api.ErrForm, r.at)
	from := r.at
	r.at += n
	return r.text[from:r.at]
}

// Count of one byte.
func (r *Reader) Count() int { return int(r.take(1)[0]) }

// Number of two bytes, the upper one first.
func (r *Reader) Number() int {
	s := r.take(2)
	return int(s[0])<<8 | int(s[1])
}

// Bytes are cloned, since what is answered must not hang on what was handed in.
func (r *Reader) Bytes(n int) string { return strings.Clone(r.take(n)) }

// Text of a count and its bytes.
func (r *Reader) Text() string { return r.Bytes(r.Count()) }

// WriteAll writes the elements, one behind the other.
func WriteAll[T any](l []T, write func(T)) {
	for _, x := range l {
		write(x)
	}
}

// WriteCounted writes a count, and the elements.
func WriteCounted[T any](b *Builder, l []T, write func(T)) {
	b.Count(len(l))
	WriteAll(l, write)
}

// ReadAll reads elements, one behind the other, up to the end.
func ReadAll[T any](r *Reader, read func() T) []T {
	var l []T
	for r.Left() > 0 {
		l = append(l, read())
	}
	return l
}

// ReadCounted reads a count, and as many elements.
func ReadCounted[T any](r *Reader, read func() T) []T {
	var l []T
	for range r.Count() {
		l = append(l, read())
	}
	return l
}

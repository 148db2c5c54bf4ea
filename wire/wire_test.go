package wire_test

import (
	"slices"
	"testing"

	"cinder/api"
	"cinder/fault"
	"cinder/wire"
)

func TestBuilderWritesBytes(t *testing.T) {
	var b wire.Builder
	b.Count(255)
	b.Number(0x1234)
	b.Number(-2)
	b.Text("ab")
	b.Bytes("c")
	if got, want := b.String(), "\xff\x12\x34\xff\xfe\x02abc"; got != want || b.Len() != len(want) {
		t.Errorf("got %x of %d bytes, want %x", got, b.Len(), want)
	}
}

func TestReaderReadsWhatWasWritten(t *testing.T) {
	r := wire.NewReader("\xff\x12\x34\x02abc")
	if n := r.Count(); n != 255 {
		t.Errorf("count %d", n)
	}
	if n := r.Number(); n != 0x1234 || r.At() != 3 || r.Left() != 4 {
		t.Errorf("number %d, at %d, left %d", n, r.At(), r.Left())
	}
	if s := r.Text(); s != "ab" {
		t.Errorf("text %q", s)
	}
	if s := r.Bytes(1); s != "c" || r.Left() != 0 {
		t.Errorf("bytes %q, left %d", s, r.Left())
	}
}

func TestReaderGivesUpWhereBytesEnd(t *testing.T) {
	for _, c := range []struct {
		name, text string
		read       func(r *wire.Reader)
		at         int
	}{
		{"count", "", func(r *wire.Reader) { r.Count() }, 0},
		{"number", "\x01", func(r *wire.Reader) { r.Number() }, 0},
		{"bytes", "ab", func(r *wire.Reader) { r.Bytes(3) }, 0},
		{"text", "\x03ab", func(r *wire.Reader) { r.Text() }, 1},
	} {
		r := wire.NewReader(c.text)
		f := fault.Caught(func() { c.read(&r) })
		if want := (api.Fault{Err: api.ErrForm, At: c.at}); f != want {
			t.Errorf("%s: got %v, want %v", c.name, f, want)
		}
	}
}

func TestListsAreReadAsWritten(t *testing.T) {
	var b wire.Builder
	l := []int{7, 0, 255}
	wire.WriteCounted(&b, l, b.Count)
	wire.WriteAll(l, b.Number)
	r := wire.NewReader(b.String())
	if got := wire.ReadCounted(&r, r.Count); !slices.Equal(got, l) {
		t.Errorf("counted: %v", got)
	}
	if got := wire.ReadAll(&r, r.Number); !slices.Equal(got, l) {
		t.Errorf("all: %v", got)
	}
}

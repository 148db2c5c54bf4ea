package code_test

import (
	"math"
	"reflect"
	"slices"
	"strings"
	"testing"

	"cinder/api"
	"cinder/code"
)

// What stands behind operations, as the document tells it.
const (
	number  = "number"
	where   = "where"
	single  = "single"
	pair    = "pair"
	nothing = ""
)

func behind(op int) string {
	switch op {
	case api.OpPush:
		return number
	case api.OpJump, api.OpZero, api.OpLess, api.OpSame, api.OpNone:
		return where
	case api.OpLoad, api.OpStore, api.OpNew, api.OpObjects, api.OpIs, api.OpCast:
		return single
	case api.OpGet, api.OpPut, api.OpCall, api.OpSpawn:
		return pair
	}
	return nothing
}

func size(op int) int {
	return map[string]int{number: 3, where: 3, single: 2, pair: 3, nothing: 1}[behind(op)]
}

// draw: numbers that are the same each time.
type draw uint64

func (d *draw) below(n int) int {
	*d = *d*6364136223846793005 + 1442695040888963407
	return int(uint64(*d) >> 33 % uint64(n))
}

// B1: each operation, with what stands behind it.
func TestEachOperationHasItsBytes(t *testing.T) {
	for op := range api.Ops {
		s := string([]byte{byte(op)})
		x := api.Ins{Op: op}
		switch behind(op) {
		case number:
			s, x.A = s+"\xff\xfe", -2
		case where:
			s, x.A = s+"\x00\x00", 0
		case single:
			s, x.A = s+"\xc8", 200
		case pair:
			s, x.A, x.B = s+"\xc8\xc9", 200, 201
		}
		if l, f := code.Decode(s); f != (api.Fault{}) || !slices.Equal(l, []api.Ins{x}) {
			t.Errorf("%x: %v %v, want %v", s, l, f, x)
		}
		if got, e := code.Encode([]api.Ins{x}); e != api.OK || got != s {
			t.Errorf("%v: %x %d, want %x", x, got, e, s)
		}
	}
}

// B1: numbers of two bytes, the upper one first, and from 32768 on below 0.
func TestNumbersHaveSigns(t *testing.T) {
	for s, want := range map[string]int{"\x00\x00": 0, "\x00\x01": 1, "\x01\x00": 256, "\x7f\xff": 32767, "\x80\x00": -32768, "\xff\xff": -1} {
		l, f := code.Decode("\x01" + s)
		if f != (api.Fault{}) || len(l) != 1 || l[0] != (api.Ins{Op: api.OpPush, A: want}) {
			t.Errorf("%x: %v %v, want %d", s, l, f, want)
		}
	}
}

// B2, and the document's second example.
func TestDecodeTellsWhereEachBegins(t *testing.T) {
	l, f := code.Decode("\x01\xff\xfe\x0d\x00\x03")
	if want := []api.Ins{{At: 0, Op: api.OpPush, A: -2}, {At: 3, Op: api.OpJump, A: 3}}; f != (api.Fault{}) || !slices.Equal(l, want) {
		t.Errorf("%v %v, want %v", l, f, want)
	}
	l, f = code.Decode("\x00\x03\x01\x13\x02\x03\x0e\x00\x00\x1b")
	want := []api.Ins{{}, {At: 1, Op: api.OpLoad, A: 1}, {At: 3, Op: api.OpGet, A: 2, B: 3}, {At: 6, Op: api.OpZero}, {At: 9, Op: api.OpReturn}}
	if f != (api.Fault{}) || !slices.Equal(l, want) {
		t.Errorf("%v %v, want %v", l, f, want)
	}
}

// B2: what is wrong, and at which byte.
func TestDecodeTellsFaults(t *testing.T) {
	nops := strings.Repeat("\x00", api.MaxCode)
	for _, c := range []struct {
		what, s string
		want    api.Fault
	}{
		{"too many bytes", nops + "\x00", api.Fault{Err: api.ErrMany}},
		{"too many, and wrong", "\xff" + nops, api.Fault{Err: api.ErrMany}},
		{"no bytes", "", api.Fault{Err: api.ErrForm}},
		{"the first number that is no operation", "\x25", api.Fault{Err: api.ErrKind}},
		{"the last one", "\x00\xff", api.Fault{Err: api.ErrKind, At: 1}},
		{"at the last byte", nops[1:] + "\x25", api.Fault{Err: api.ErrKind, At: 199}},
		{"ends too early", "\x00\x01\x00", api.Fault{Err: api.ErrForm, At: 1}},
		{"ends at once", "\x00\x00\x03", api.Fault{Err: api.ErrForm, At: 2}},
		{"a kind ahead of an end", "\x25\x01", api.Fault{Err: api.ErrKind}},
		{"an end ahead of where it goes to", "\x0d\x00\x09\x01", api.Fault{Err: api.ErrForm, At: 3}},
		{"a kind ahead of where it goes to", "\x0d\x00\x09\x25", api.Fault{Err: api.ErrKind, At: 3}},
		{"into an operation", "\x00\x0d\x00\x02", api.Fault{Err: api.ErrRange, At: 1}},
		{"behind the last one", "\x0d\x00\x03", api.Fault{Err: api.ErrRange}},
		{"far away", "\x0d\xff\xff", api.Fault{Err: api.ErrRange}},
		{"the first of two", "\x0d\x00\x00\x0e\x00\x01\x0f\x00\x02", api.Fault{Err: api.ErrRange, At: 3}},
	} {
		if l, f := code.Decode(c.s); f != c.want || len(l) != 0 {
			t.Errorf("%s: %v %v, want %v", c.what, l, f, c.want)
		}
	}
}

// B2: each operation that has something behind it, cut, and each that goes somewhere.
func TestDecodeLooksAtEachOperation(t *testing.T) {
	for op := range api.Ops {
		for n := 1; n < size(op); n++ {
			s := string([]byte{byte(op), 0}[:n])
			if l, f := code.Decode(s); f != (api.Fault{Err: api.ErrForm}) || len(l) != 0 {
				t.Errorf("%x: %v %v", s, l, f)
			}
		}
		if behind(op) == where {
			s := string([]byte{byte(op), 0, 1})
			if l, f := code.Decode(s); f != (api.Fault{Err: api.ErrRange}) || len(l) != 0 {
				t.Errorf("%x: %v %v", s, l, f)
			}
		}
	}
}

// B2: the longest code.
func TestDecodeTakesTheLongest(t *testing.T) {
	l, f := code.Decode(strings.Repeat("\x00", api.MaxCode-3) + "\x0d\x00\xc5")
	if f != (api.Fault{}) || len(l) != 198 || l[197] != (api.Ins{At: 197, Op: api.OpJump, A: 197}) {
		t.Errorf("%d operations, %v", len(l), f)
	}
}

// B3: which numbers fit, of each operation.
func TestEncodeTellsWhatDoesNotFit(t *testing.T) {
	ranges := map[string][4]int{number: {-32768, 32767, 0, 0}, where: {0, 65535, 0, 0}, single: {0, 255, 0, 0}, pair: {0, 255, 0, 255}, nothing: {0, 0, 0, 0}}
	for op := range api.Ops {
		r := ranges[behind(op)]
		for _, a := range []int{math.MinInt, r[0] - 1, r[0], r[1], r[1] + 1, math.MaxInt} {
			for _, b := range []int{math.MinInt, r[2] - 1, r[2], r[3], r[3] + 1, math.MaxInt} {
				want := api.OK
				if a < r[0] || a > r[1] || b < r[2] || b > r[3] {
					want = api.ErrRange
				}
				s, e := code.Encode([]api.Ins{{Op: op, A: a, B: b}})
				if e != want || e == api.OK && len(s) != size(op) || e != api.OK && s != "" {
					t.Errorf("operation %d, %d, %d: %x %d, want %d", op, a, b, s, e, want)
				}
			}
		}
	}
}

// B3: errors, operation by operation, and the last one of all.
func TestEncodeTellsErrors(t *testing.T) {
	var nops []api.Ins
	for i := range api.MaxCode + 1 {
		nops = append(nops, api.Ins{At: i})
	}
	last := slices.Clone(nops)
	last[api.MaxCode].Op = api.Ops
	for _, c := range []struct {
		what string
		l    []api.Ins
		want api.Errno
	}{
		{"none", nil, api.OK},
		{"none, not nil", []api.Ins{}, api.OK},
		{"the longest", nops[:api.MaxCode], api.OK},
		{"too many", nops, api.ErrMany},
		{"too many, the last one wrong", last, api.ErrKind},
		{"an operation that is none", []api.Ins{{Op: api.Ops}}, api.ErrKind},
		{"one below 0", []api.Ins{{Op: -1}}, api.ErrKind},
		{"the greatest", []api.Ins{{Op: math.MaxInt}}, api.ErrKind},
		{"the least", []api.Ins{{Op: math.MinInt}}, api.ErrKind},
		{"a byte round", []api.Ins{{Op: 256}}, api.ErrKind},
		{"none, that does not fit, elsewhere", []api.Ins{{At: 1, Op: api.Ops, A: -1}}, api.ErrKind},
		{"does not fit, elsewhere", []api.Ins{{At: 1, A: 1}}, api.ErrRange},
		{"elsewhere", []api.Ins{{At: 1}}, api.ErrState},
		{"below", []api.Ins{{At: -1}}, api.ErrState},
		{"a gap", []api.Ins{{}, {At: 2}}, api.ErrState},
		{"within another one", []api.Ins{{Op: api.OpPush}, {At: 1}}, api.ErrState},
		{"behind it", []api.Ins{{Op: api.OpPush}, {At: 3}}, api.OK},
		{"the first one's error first", []api.Ins{{At: 1}, {Op: -1}}, api.ErrState},
		{"where it goes to does not matter", []api.Ins{{Op: api.OpJump, A: 65535}}, api.OK},
	} {
		if s, e := code.Encode(c.l); e != c.want || e != api.OK && s != "" {
			t.Errorf("%s: %x %d, want %d", c.what, s, e, c.want)
		}
	}
}

// B4: by the byte that each tells.
func TestPlaceFindsWhoBeginsThere(t *testing.T) {
	l, _ := code.Decode("\x00\x01\x00\x00\x03\x00\x1b")
	want := map[int]int{0: 0, 1: 1, 4: 2, 6: 3}
	for at := -2; at < 10; at++ {
		i, e := code.Place(l, at)
		if n, ok := want[at]; ok && (i != n || e != api.OK) || !ok && (i != 0 || e != api.ErrNone) {
			t.Errorf("at %d: %d %d", at, i, e)
		}
	}
	for _, at := range []int{0, math.MaxInt, math.MinInt} {
		if i, e := code.Place(nil, at); i != 0 || e != api.ErrNone {
			t.Errorf("in none, at %d: %d %d", at, i, e)
		}
	}
	odd := []api.Ins{{At: 9, Op: -1}, {At: -7}, {At: 9}}
	if i, e := code.Place(odd, -7); i != 1 || e != api.OK {
		t.Errorf("in what is no code: %d %d", i, e)
	}
}

// B5, P1, and the whole: whatever bytes are decoded are encoded as they were.
func TestDecodedIsEncodedAsItWas(t *testing.T) {
	d := draw(1)
	right := 0
	for range 20000 {
		b := make([]byte, d.below(12))
		for i := range b {
			b[i] = byte(d.below(api.Ops + 3))
			if d.below(3) > 0 {
				b[i] = byte(d.below(3))
			}
		}
		l, f := code.Decode(string(b))
		if f.Err != api.OK {
			if len(l) != 0 || f.At < 0 || f.At > len(b) {
				t.Fatalf("%x: %v %v", b, l, f)
			}
			continue
		}
		right++
		if s, e := code.Encode(l); e != api.OK || s != string(b) {
			t.Fatalf("%x is decoded, but encoded as %x, %d", b, s, e)
		}
	}
	if right < 1000 {
		t.Errorf("just %d were right", right)
	}
}

// B5: the other way round: what is encoded, and goes to where something is, is decoded as it was.
func TestEncodedIsDecodedAsItWas(t *testing.T) {
	d := draw(2)
	for range 2000 {
		var l []api.Ins
		at := 0
		for range 1 + d.below(api.MaxCode/3) {
			x := api.Ins{At: at, Op: d.below(api.Ops)}
			switch behind(x.Op) {
			case number:
				x.A = d.below(65536) - 32768
			case where:
				x.A = at
				if len(l) > 0 {
					x.A = l[d.below(len(l))].At
				}
			case single:
				x.A = d.below(256)
			case pair:
				x.A, x.B = d.below(256), d.below(256)
			}
			l = append(l, x)
			at += size(x.Op)
		}
		s, e := code.Encode(l)
		if got, f := code.Decode(s); e != api.OK || f != (api.Fault{}) || !slices.Equal(got, l) {
			t.Fatalf("%v: %x %d; %v %v", l, s, e, got, f)
		}
	}
}

// P2: what is handed in is as it was, the spare room behind it too; what is answered is new.
func TestMemoryIsOnesOwn(t *testing.T) {
	l := []api.Ins{{Op: api.OpPush, A: 7}, {At: 3, Op: api.OpReturn}, {At: 99, Op: 99}}
	kept := slices.Clone(l)
	code.Encode(l[:2])
	code.Place(l[:2], 3)
	if !reflect.DeepEqual(l, kept) {
		t.Errorf("handed in: %v, want %v", l, kept)
	}
	if i, e := code.Place(l[:2], 99); i != 0 || e != api.ErrNone {
		t.Errorf("the spare room was looked at: %d %d", i, e)
	}
	a, _ := code.Decode("\x00\x1b")
	a[0].Op = 99
	_ = append(a, api.Ins{Op: 99})
	if b, _ := code.Decode("\x00\x1b"); !slices.Equal(b, []api.Ins{{}, {At: 1, Op: api.OpReturn}}) {
		t.Errorf("decoded again: %v", b)
	}
}

package code

import (
	"cinder/api"
	"cinder/fault"
	"cinder/wire"
)

// What may stand behind an operation's byte.
const (
	nothing = iota
	number  // A, with a sign
	where   // A, a byte of the code
	single  // A
	pair    // A and B
)

// room: how many bytes there are, from where to where A may be, and up to where B.
type room struct{ bytes, low, high, second int }

var rooms = [...]room{
	nothing: {},
	number:  {bytes: 2, low: -32768, high: 32767},
	where:   {bytes: 2, high: 65535},
	single:  {bytes: 1, high: 255},
	pair:    {bytes: 2, high: 255, second: 255},
}

// behind tells, by operation, what stands behind it; nothing, if it is not named.
var behind = [api.Ops]int{
	api.OpPush:    number,
	api.OpLoad:    single,
	api.OpStore:   single,
	api.OpJump:    where,
	api.OpZero:    where,
	api.OpLess:    where,
	api.OpSame:    where,
	api.OpNone:    where,
	api.OpNew:     single,
	api.OpGet:     pair,
	api.OpPut:     pair,
	api.OpObjects: single,
	api.OpCall:    pair,
	api.OpIs:      single,
	api.OpCast:    single,
	api.OpSpawn:   pair,
}

func isOp(n int) bool { return n >= 0 && n < api.Ops }

func fits(x api.Ins) bool {
	r := rooms[behind[x.Op]]
	return x.A >= r.low && x.A <= r.high && x.B >= 0 && x.B <= r.second
}

type encoder struct{ wire.Builder }

func (e *encoder) ins(x api.Ins) {
	at := e.Len()
	fault.DemandAt(isOp(x.Op), api.ErrKind, at)
	fault.DemandAt(fits(x), api.ErrRange, at)
	fault.DemandAt(x.At == at, api.ErrState, at)
	e.Count(x.Op)
	switch behind[x.Op] {
	case number, where:
		e.Number(x.A)
	case single:
		e.Count(x.A)
	case pair:
		e.Count(x.A)
		e.Count(x.B)
	}
}

type decoder struct{ wire.Reader }

func decode(s string) []api.Ins {
	d := decoder{wire.NewReader(s)}
	l := wire.ReadAll(&d.Reader, d.ins)
	for _, x := range l {
		checkWhere(l, x)
	}
	return l
}

func checkWhere(l []api.Ins, x api.Ins) {
	if behind[x.Op] != where {
		return
	}
	_, e := Place(l, x.A)
	fault.DemandAt(e == api.OK, api.ErrRange, x.At)
}

func (d *decoder) ins() api.Ins {
	x := api.Ins{At: d.At()}
	x.Op = d.Count()
	fault.DemandAt(isOp(x.Op), api.ErrKind, x.At)
	// The reader would give up by itself, but tell of the byte where it ends.
	fault.DemandAt(d.Left() >= rooms[behind[x.Op]].bytes, api.ErrForm, x.At)
	switch behind[x.Op] {
	case number:
		x.A = int(int16(d.Number()))
	case where:
		x.A = d.Number()
	case single:
		x.A = d.Count()
	case pair:
		x.A = d.Count()
		x.B = d.Count()
	}
	return x
}

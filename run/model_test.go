package run_test

import (
	"slices"
	"testing"

	"cinder/api"
	"cinder/code"
	"cinder/full"
	"cinder/heap"
	"cinder/link"
	"cinder/verify"
	"cinder/young"
)

// memory is what a model's things are in. Roots are led to where things are then.
type memory interface {
	make(tag, length int, roots []*int) (int, bool)
	tag(at int) (tag, length, hash int)
	get(at, n int) int
	set(at, n, value int)
	collect(all bool, roots []*int)
}

// endless memory has room for all, and no thing goes elsewhere; its addresses are no numbers of 32 bits.
type endless struct {
	tags  []int
	words [][]int
}

const far = 1 << 40

func (m *endless) make(tag, length int, _ []*int) (int, bool) {
	m.tags, m.words = append(m.tags, tag), append(m.words, make([]int, length))
	return far + len(m.tags) - 1, true
}

func (m *endless) tag(at int) (int, int, int) {
	return m.tags[at-far], len(m.words[at-far]), at - far + 1
}

func (m *endless) get(at, n int) int { return m.words[at-far][n] }

func (m *endless) set(at, n, value int) { m.words[at-far][n] = value }

func (m *endless) collect(bool, []*int) {}

// layered memory is a heap, by the calls of chapters 5 to 7 alone.
type layered struct {
	*testing.T
	k api.Linked
	h api.Heap
}

func (m *layered) must(e api.Errno) {
	m.Helper()
	if e != api.OK {
		m.Fatalf("a call says %d of %v", e, m.h)
	}
}

func values(roots []*int) []int {
	var l []int
	for _, p := range roots {
		l = append(l, *p)
	}
	return l
}

func lead(roots []*int, to []int) {
	for i, p := range roots {
		*p = to[i]
	}
}

func (m *layered) make(tag, length int, roots []*int) (int, bool) {
	h, to, at, ok, e := full.Space(m.h, m.k, values(roots), tag, length)
	m.must(e)
	m.h = h
	lead(roots, to)
	return at, ok
}

func (m *layered) tag(at int) (int, int, int) {
	tag, length, hash, e := heap.Tag(m.h, m.k, at)
	m.must(e)
	return tag, length, hash
}

func (m *layered) get(at, n int) int {
	w, e := heap.Get(m.h, m.k, at, n)
	m.must(e)
	return w
}

func (m *layered) set(at, n, value int) {
	h, e := heap.Set(m.h, m.k, at, n, value)
	m.must(e)
	m.h = h
}

func (m *layered) collect(all bool, roots []*int) {
	collect := young.Collect
	if all {
		collect = full.Collect
	}
	h, to, e := collect(m.h, m.k, values(roots))
	if e == api.ErrFull { // there is no room: it is not collected
		return
	}
	m.must(e)
	m.h = h
	lead(roots, to)
}

// model of a run: as the document tells it, on a memory; it looks at all that its states tell, too.
type model struct {
	*testing.T
	memory
	k       api.Linked
	s       api.Script
	states  map[[2]int][]api.State
	threads [][]*modelFrame
	ends    []int
	locked  []modelLock
	full    int
	trace   api.Trace
	read    int
	codes   map[int]int // how often each was thrown
	made    int         // words
}

type modelFrame struct {
	api.Method
	states        []api.State
	list          []api.Ins
	n             int
	locals, stack []int
}

type modelLock struct{ at, thread, times int }

func newModel(t *testing.T, l []api.Class, s api.Script, m memory) *model {
	t.Helper()
	k, e := link.Link(l)
	if e != api.OK {
		t.Fatalf("Link says %d", e)
	}
	x := &model{T: t, memory: m, k: k, s: s, states: map[[2]int][]api.State{}, codes: map[int]int{}}
	for i, c := range l {
		for j := range c.Methods {
			states, f := verify.Method(k, i, j)
			if f.Err != api.OK {
				t.Fatalf("method %s of %s: %v", c.Methods[j].Name, c.Name, f)
			}
			x.states[[2]int{i, j}] = states
		}
	}
	return x
}

func modelOf(t *testing.T, l []api.Class, s api.Script) *model {
	return newModel(t, l, s, &endless{})
}

// layeredModel begins with a heap whose first thing is made in the old part.
func layeredModel(t *testing.T, l []api.Class, s api.Script) *model {
	t.Helper()
	h, _ := heap.New(s.Young, s.Old)
	m := &layered{T: t, h: h}
	x := newModel(t, l, s, m)
	m.k = x.k
	c := x.class(api.ErrorClass)
	h, at, e := heap.Make(h, x.k, api.TagClass+c, len(x.k.Fields[c]), true)
	m.must(e)
	m.h, x.full = h, at
	return x
}

func (m *model) class(name string) int {
	return slices.IndexFunc(m.k.Classes, func(c api.Class) bool { return c.Name == name })
}

func (m *model) frame(class, method int, args []int) *modelFrame {
	x := m.k.Classes[class].Methods[method]
	list, _ := code.Decode(x.Code)
	f := &modelFrame{Method: x, states: m.states[[2]int{class, method}], list: list, locals: make([]int, x.Locals)}
	copy(f.locals, args)
	return f
}

func (m *model) run() api.Trace {
	c := m.class(api.ErrorClass)
	if m.full == 0 {
		m.full, _ = m.make(api.TagClass+c, len(m.k.Fields[c]), nil)
	}
	m.set(m.full, 0, api.CodeFull)
	top := m.class(api.TopClass)
	main := slices.IndexFunc(m.k.Classes[top].Methods, func(x api.Method) bool { return x.Name == "main" })
	m.spawn(m.frame(top, main, nil))
	for m.trace.End == 0 {
		m.turn()
	}
	m.trace.Ends = m.ends
	return m.trace
}

func (m *model) spawn(f *modelFrame) {
	m.threads, m.ends = append(m.threads, []*modelFrame{f}), append(m.ends, -2)
}

// turn is a step, or the end.
func (m *model) turn() {
	if m.trace.Steps == m.s.Fuel {
		m.trace.End = api.EndFuel
		return
	}
	var may []int
	ended := 0
	for i, l := range m.threads {
		if len(l) == 0 {
			ended++
			continue
		}
		f := l[len(l)-1]
		waits := f.list[f.n].Op == api.OpLock && slices.ContainsFunc(m.locked, func(x modelLock) bool { return x.at == f.stack[len(f.stack)-1] && x.thread != i })
		if !waits {
			may = append(may, i)
		}
	}
	if len(may) == 0 {
		m.trace.End = api.EndStuck
		if ended == len(m.threads) {
			m.trace.End = api.EndDone
		}
		return
	}
	if n := m.trace.Steps; slices.Contains(m.s.Great, n) {
		m.collect(true, m.roots())
	} else if slices.Contains(m.s.Small, n) {
		m.collect(false, m.roots())
	}
	pick := 0
	if len(m.s.Picks) > 0 {
		pick = m.s.Picks[m.trace.Steps%len(m.s.Picks)]
		if pick < 0 {
			pick = -pick
		}
	}
	if _, ok := m.memory.(*endless); ok { // of others it would take long
		m.lookAtAll()
	}
	m.step(may[pick%len(may)])
	m.trace.Steps++
}

func (m *model) roots() []*int {
	l := []*int{&m.full}
	tells := func(values []int, kinds []api.Kind) {
		for i := range values {
			if k := kinds[i].Kind; k != api.KindInt && k != api.KindAny {
				l = append(l, &values[i])
			}
		}
	}
	for _, t := range m.threads {
		for _, f := range t {
			tells(f.locals, f.states[f.n].Locals)
			tells(f.stack, f.states[f.n].Stack)
		}
	}
	for i := range m.locked {
		l = append(l, &m.locked[i].at)
	}
	return l
}

// lookAtAll holds what all frames have against what their states tell.
func (m *model) lookAtAll() {
	m.Helper()
	for _, t := range m.threads {
		for n, f := range t {
			s := f.states[f.n]
			if !s.Comes || len(s.Locals) != len(f.locals) || len(s.Stack) < len(f.stack) || n == len(t)-1 && len(s.Stack) != len(f.stack) {
				m.Fatalf("it may not come to %v: %v, %v", f.list[f.n], f.locals, f.stack)
			}
			for i, v := range f.locals {
				m.mustBe(v, s.Locals[i])
			}
			for i, v := range f.stack {
				m.mustBe(v, s.Stack[i])
			}
		}
	}
}

// mustBe what a kind tells. Rows of objects are known by their tag alone.
func (m *model) mustBe(v int, k api.Kind) {
	m.Helper()
	ok := true
	switch k.Kind {
	case api.KindInt:
		ok = v == int(int32(v))
	case api.KindNull:
		ok = v == 0
	case api.KindInts, api.KindObjects, api.KindObject:
		if v == 0 {
			return
		}
		tag, _, _ := m.tag(v)
		want := map[int]int{api.KindInts: api.TagInts, api.KindObjects: api.TagObjects}[k.Kind]
		ok = tag == want || k.Kind == api.KindObject && m.isOf(v, m.class(k.Class))
	}
	if !ok {
		m.Fatalf("%d is no %v", v, k)
	}
}

// isOf a class, or under it; of TopClass all things are.
func (m *model) isOf(at, class int) bool {
	tag, _, _ := m.tag(at)
	if m.k.Classes[class].Name == api.TopClass {
		return true
	}
	if tag < api.TagClass {
		return false
	}
	n := tag - api.TagClass
	for n >= 0 && n != class {
		n = m.k.Supers[n]
	}
	return n >= 0
}

func (m *model) new(tag, length int) (int, bool) {
	at, ok := m.make(tag, length, m.roots())
	if ok {
		m.made += 3 + length
	}
	return at, ok
}

// step of a thread.
func (m *model) step(who int) {
	t := m.threads[who]
	f := t[len(t)-1]
	code := m.do(who, f, f.list[f.n])
	if code == 0 {
		return
	}
	m.codes[code]++
	c := m.class(api.ErrorClass)
	at, ok := 0, false
	if code != api.CodeFull {
		at, ok = m.new(api.TagClass+c, len(m.k.Fields[c]))
	}
	if ok {
		m.set(at, 0, code)
	} else {
		at, m.trace.Full = m.full, true
	}
	m.throw(who, at)
}

func (m *model) throw(who, at int) {
	for l := m.threads[who]; len(l) > 0; l = l[:len(l)-1] {
		f := l[len(l)-1]
		for _, h := range f.Handlers {
			if on := f.list[f.n].At; h.From <= on && on < h.To && m.isOf(at, m.class(h.Class)) {
				f.stack = []int{at}
				f.n, _ = code.Place(f.list, h.At)
				m.threads[who] = l
				return
			}
		}
	}
	by := -1
	if tag, _, _ := m.tag(at); tag == api.TagClass+m.class(api.ErrorClass) {
		by = m.get(at, 0)
	}
	m.end(who, by)
}

func (m *model) end(who, by int) {
	m.threads[who], m.ends[who] = nil, by
	m.locked = slices.DeleteFunc(m.locked, func(l modelLock) bool { return l.thread == who })
}

// do an operation: a code, if it throws.
func (m *model) do(who int, f *modelFrame, x api.Ins) int {
	peek := func(n int) int { return f.stack[len(f.stack)-1-n] } // from the last one on
	next := func(take int, put ...int) int {
		f.stack = append(slices.Clone(f.stack[:len(f.stack)-take]), put...)
		f.n++
		return 0
	}
	goTo := func(take int, goes bool) int {
		next(take)
		if goes {
			f.n, _ = code.Place(f.list, x.A)
		}
		return 0
	}
	w32 := func(n int) int { return int(int32(uint32(n))) }
	switch x.Op {
	case api.OpNop:
		return next(0)
	case api.OpPush:
		return next(0, x.A)
	case api.OpNull:
		return next(0, 0)
	case api.OpLoad:
		return next(0, f.locals[x.A])
	case api.OpStore:
		f.locals[x.A] = peek(0)
		return next(1)
	case api.OpPop:
		return next(1)
	case api.OpDup:
		return next(0, peek(0))
	case api.OpSwap:
		return next(2, peek(0), peek(1))
	case api.OpAdd:
		return next(2, w32(peek(1)+peek(0)))
	case api.OpSub:
		return next(2, w32(peek(1)-peek(0)))
	case api.OpMul:
		return next(2, w32(peek(1)*peek(0)))
	case api.OpDiv, api.OpRem:
		if peek(0) == 0 {
			return api.CodeZero
		}
		if x.Op == api.OpDiv {
			return next(2, w32(peek(1)/peek(0)))
		}
		return next(2, peek(1)%peek(0))
	case api.OpJump:
		return goTo(0, true)
	case api.OpZero, api.OpNone:
		return goTo(1, peek(0) == 0)
	case api.OpLess:
		return goTo(2, peek(1) < peek(0))
	case api.OpSame:
		return goTo(2, peek(1) == peek(0))
	case api.OpPrint:
		m.trace.Printed = append(m.trace.Printed, api.Line{Thread: who, Number: peek(0)})
		return next(1)
	case api.OpRead:
		m.read++
		if m.read > len(m.s.Input) {
			return next(0, -1)
		}
		return next(0, w32(m.s.Input[m.read-1]))
	}
	return m.doThings(who, f, x, peek, next)
}

func (m *model) doThings(who int, f *modelFrame, x api.Ins, peek func(n int) int, next func(take int, put ...int) int) int {
	switch x.Op {
	case api.OpNew:
		at, ok := m.new(api.TagClass+x.A, len(m.k.Fields[x.A]))
		if !ok {
			return api.CodeFull
		}
		return next(0, at)
	case api.OpInts, api.OpObjects:
		if peek(0) < 0 || peek(0) > api.MaxRow {
			return api.CodeSize
		}
		at, ok := m.new(map[int]int{api.OpInts: api.TagInts, api.OpObjects: api.TagObjects}[x.Op], peek(0))
		if !ok {
			return api.CodeFull
		}
		return next(1, at)
	case api.OpIs:
		if peek(0) != 0 && m.isOf(peek(0), x.A) {
			return next(1, 1)
		}
		return next(1, 0)
	case api.OpCast:
		if peek(0) != 0 && !m.isOf(peek(0), x.A) {
			return api.CodeCast
		}
		return next(0)
	case api.OpCall, api.OpReturn, api.OpSpawn:
		return m.doFrames(who, f, x, next)
	}
	asked := peek(map[int]int{api.OpAt: 1, api.OpSet: 2, api.OpPut: 1}[x.Op])
	if asked == 0 {
		return api.CodeNull
	}
	tag, length, hash := m.tag(asked)
	mine := slices.IndexFunc(m.locked, func(l modelLock) bool { return l.at == asked && l.thread == who })
	switch x.Op {
	case api.OpGet, api.OpPut:
		if tag < api.TagClass {
			return api.CodeRange
		}
		if x.Op == api.OpGet {
			return next(1, m.get(asked, x.B))
		}
		m.set(asked, x.B, peek(0))
		return next(2)
	case api.OpAt:
		if peek(0) < 0 || peek(0) >= length {
			return api.CodeRange
		}
		return next(2, m.get(asked, peek(0)))
	case api.OpSet:
		if peek(1) < 0 || peek(1) >= length {
			return api.CodeRange
		}
		m.set(asked, peek(1), peek(0))
		return next(3)
	case api.OpLength:
		return next(1, length)
	case api.OpHash:
		return next(1, hash)
	case api.OpThrow:
		m.throw(who, asked)
		return 0
	case api.OpLock:
		if mine < 0 {
			m.locked = append(m.locked, modelLock{asked, who, 0})
			mine = len(m.locked) - 1
		}
		m.locked[mine].times++
		return next(1)
	case api.OpUnlock:
		if mine < 0 {
			return api.CodeLock
		}
		if m.locked[mine].times--; m.locked[mine].times == 0 {
			m.locked = slices.Delete(m.locked, mine, mine+1)
		}
		return next(1)
	}
	m.Fatalf("no operation: %v", x)
	return 0
}

func (m *model) doFrames(who int, f *modelFrame, x api.Ins, next func(take int, put ...int) int) int {
	if x.Op == api.OpReturn {
		l := m.threads[who][:len(m.threads[who])-1]
		m.threads[who] = l
		if len(l) == 0 {
			m.end(who, 0)
			return 0
		}
		below := l[len(l)-1]
		below.n++
		if f.Returns.Kind != api.KindNone {
			below.stack = append(slices.Clone(below.stack), f.stack[len(f.stack)-1])
		}
		return 0
	}
	class, method := x.A, x.B
	to := m.k.Classes[class].Methods[method]
	takes := len(to.Args)
	if x.Op == api.OpSpawn {
		if len(m.threads) == api.MaxThreads {
			return api.CodeMany
		}
		m.spawn(m.frame(class, method, f.stack[len(f.stack)-takes:]))
		return next(takes)
	}
	if !to.Static {
		takes++
		this := f.stack[len(f.stack)-takes]
		if this == 0 {
			return api.CodeNull
		}
		of := m.class(api.TopClass)
		if tag, _, _ := m.tag(this); tag >= api.TagClass {
			of = tag - api.TagClass
		}
		t, e := link.Target(m.k, of, to.Name)
		if e != api.OK {
			m.Fatalf("no target: %d", e)
		}
		class, method = t.Class, t.Method
	}
	if len(m.threads[who]) == api.MaxFrames {
		return api.CodeDeep
	}
	m.threads[who] = append(m.threads[who], m.frame(class, method, f.stack[len(f.stack)-takes:]))
	f.stack = slices.Clone(f.stack[:len(f.stack)-takes])
	return 0
}

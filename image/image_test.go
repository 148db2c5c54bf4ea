package image_test

import (
	"reflect"
	"slices"
	"strings"
	"testing"

	"cinder/api"
	"cinder/image"
)

// same takes an empty list for none, as P2 does.
func same(a, b []api.Class) bool { return reflect.DeepEqual(plain(a), plain(b)) }

func plain(l []api.Class) []api.Class {
	l = slices.Clone(l)
	for i := range l {
		l[i].Fields = append([]api.Field{}, l[i].Fields...)
		l[i].Methods = append([]api.Method{}, l[i].Methods...)
		for j := range l[i].Methods {
			m := &l[i].Methods[j]
			m.Args = append([]api.Kind{}, m.Args...)
			m.Handlers = append([]api.Handler{}, m.Handlers...)
		}
	}
	return append([]api.Class{}, l...)
}

func mustWrite(t *testing.T, l []api.Class) string {
	t.Helper()
	s, e := image.Write(l)
	if e != api.OK {
		t.Fatalf("Write says %d", e)
	}
	return s
}

func mustRead(t *testing.T, s string) []api.Class {
	t.Helper()
	l, e := image.Read(s)
	if e != api.OK {
		t.Fatalf("Read says %d", e)
	}
	return l
}

// A2, and the document's first example.
func TestImagesAreTheseBytes(t *testing.T) {
	for _, c := range []struct {
		l    []api.Class
		want string
	}{
		{nil, "\x00"},
		{[]api.Class{{Name: "Object"}, {Name: "Error", Super: "Object"}}, "\x02\x06Object\x00\x00\x00\x05Error\x06Object\x00\x00"},
		{[]api.Class{full()}, "\x01" + fullBytes},
		{[]api.Class{full(), full()}, "\x02" + fullBytes + fullBytes},
		{method(func(m *api.Method) { *m = api.Method{Name: "m", Code: strings.Repeat("c", 200)} }),
			"\x01\x04Full\x06Object\x02\x01n\x01\x01o\x03\x01A\x01\x01m\x00\x00\x00\x00\x00\x00\xc8" + strings.Repeat("c", 200) + "\x00"},
	} {
		if got := mustWrite(t, c.l); got != c.want {
			t.Errorf("written: %x\nwant:    %x", got, c.want)
		}
		if got := mustRead(t, c.want); !same(got, c.l) {
			t.Errorf("read: %v\nwant: %v", got, c.l)
		}
	}
}

// greatest has n classes, each with all that it may have.
func greatest(n int) []api.Class {
	name := strings.Repeat("n", api.MaxName)
	object := api.Kind{Kind: api.KindObjects, Class: name}
	place := api.MaxCode
	m := api.Method{
		Name: name, Args: repeat(object, api.MaxArgs), Returns: object, Code: strings.Repeat("c", api.MaxCode),
		Handlers: repeat(api.Handler{From: place, To: place, At: place, Class: name}, api.MaxHandlers),
	}
	c := api.Class{Name: name, Super: name, Fields: repeat(api.Field{Name: name, Kind: object}, api.MaxFields), Methods: repeat(m, api.MaxMethods)}
	return plain(repeat(c, n))
}

// sized are classes whose image has just that many bytes, though that may be too many.
func sized(t *testing.T, bytes int) []api.Class {
	t.Helper()
	const without = len("\x01k\x00\x00\x01\x01m\x00\x00\x00\x00\x00\x00\x00\x00") // its code
	l := greatest(5)
	more := bytes - len(mustWrite(t, l))
	for left := 4; left > 0; left-- {
		share := more / left
		more -= share
		m := api.Method{Name: "m", Code: strings.Repeat("c", share-without)}
		l = append(l, api.Class{Name: "k", Methods: []api.Method{m}})
	}
	return l
}

// A3: the longest image, and one that would be longer by a byte.
func TestImagesHaveALimit(t *testing.T) {
	longest := sized(t, api.MaxImage)
	s := mustWrite(t, longest)
	if len(s) != api.MaxImage || !same(mustRead(t, s), longest) {
		t.Errorf("the longest one has %d bytes, or is read otherwise", len(s))
	}
	longer := sized(t, api.MaxImage+1)
	for _, l := range [][]api.Class{longer, greatest(api.MaxClasses)} {
		if e := image.Check(l); e != api.OK {
			t.Errorf("Check says %d", e)
		}
		if s, e := image.Write(l); s != "" || e != api.ErrMany {
			t.Errorf("Write says %d, with %d bytes", e, len(s))
		}
	}
	if l, e := image.Read(s + "x"); len(l) != 0 || e != api.ErrMany {
		t.Errorf("Read of one more: %d classes, %d", len(l), e)
	}
	if l, e := image.Read(strings.Repeat("\x00", api.MaxImage)); len(l) != 0 || e != api.ErrForm {
		t.Errorf("Read of as many that are none: %d classes, %d", len(l), e)
	}
	longer[0].Name = ""
	if _, e := image.Write(longer); e != api.ErrForm {
		t.Errorf("Check's errors come first: %d", e)
	}
}

// A3: what is no image.
func TestReadRefusesWhatIsNeverWritten(t *testing.T) {
	good := "\x01" + fullBytes
	for i := range len(good) {
		if l, e := image.Read(good[:i]); len(l) != 0 || e != api.ErrForm {
			t.Errorf("the first %d bytes: %d classes, %d", i, len(l), e)
		}
	}
	class := func(methods string) string { return "\x01\x01A\x00\x00" + methods }
	for what, s := range map[string]string{
		"no byte":                    "",
		"a byte behind it":           good + "\x00",
		"a byte behind none":         "\x00\x00",
		"a name that is none":        "\x01\x00\x00\x00\x00",
		"a name too long":            "\x01\x15" + strings.Repeat("n", 21) + "\x00\x00\x00",
		"a wrong Super":              "\x01\x01A\x01?\x00\x00",
		"a class too many":           "\x0b" + strings.Repeat("\x01A\x00\x00\x00", 11),
		"a field too many":           "\x01\x01A\x00\x07" + strings.Repeat("\x01f\x01", 7) + "\x00",
		"a method too many":          class("\x09" + strings.Repeat("\x01m\x00\x00\x00\x00\x00\x00\x00\x00", 9)),
		"a field of no kind":         "\x01\x01A\x00\x01\x01f\x00\x00",
		"a field of null":            "\x01\x01A\x00\x01\x01f\x05\x00",
		"a kind without its class":   "\x01\x01A\x00\x01\x01f\x03\x00\x00",
		"a kind with a needless one": "\x01\x01A\x00\x01\x01f\x01\x00\x00",
		"static by 2":                class("\x01\x01m\x02\x00\x00\x00\x00\x00\x00\x00"),
		"static by 255":              class("\x01\x01m\xff\x00\x00\x00\x00\x00\x00\x00"),
		"an argument too many":       class("\x01\x01m\x00\x05\x01\x01\x01\x01\x01\x00\x00\x00\x00\x00\x00"),
		"an argument of no kind":     class("\x01\x01m\x00\x01\x00\x00\x00\x00\x00\x00\x00"),
		"a stack too great":          class("\x01\x01m\x00\x00\x00\x0b\x00\x00\x00\x00"),
		"locals too great":           class("\x01\x01m\x00\x00\x00\x00\x0b\x00\x00\x00"),
		"code too long":              class("\x01\x01m\x00\x00\x00\x00\x00\x00\xc9" + strings.Repeat("c", 201) + "\x00"),
		"a handler too far":          class("\x01\x01m\x00\x00\x00\x00\x00\x00\x00\x01\x00\x00\x00\xc9\x00\x00\x01E"),
		"a handler of no class":      class("\x01\x01m\x00\x00\x00\x00\x00\x00\x00\x01\x00\x00\x00\x00\x00\x00\x00"),
		"a handler too many":         class("\x01\x01m\x00\x00\x00\x00\x00\x00\x00\x05" + strings.Repeat("\x00\x00\x00\x00\x00\x00\x01E", 5)),
	} {
		if l, e := image.Read(s); len(l) != 0 || e != api.ErrForm {
			t.Errorf("%s: %d classes, %d", what, len(l), e)
		}
	}
	if l := mustRead(t, class("\x01\x01m\x00\x00\x00\x00\x00\x00\x00\x00")); len(l) != 1 || len(l[0].Methods) != 1 {
		t.Errorf("what the wrong ones differ from: %v", l)
	}
}

// A4, and the whole: what is written is read as it was.
func TestWrittenIsReadAsItWas(t *testing.T) {
	d := draw(1)
	written := 0
	for range 500 {
		l := d.classes()
		s, e := image.Write(l)
		if e == api.ErrMany {
			continue
		}
		written++
		if got, f := image.Read(s); e != api.OK || f != api.OK || !same(got, l) {
			t.Fatalf("%v: Write says %d, Read says %d: %v", l, e, f, got)
		}
	}
	if written < 400 {
		t.Errorf("just %d were written", written)
	}
}

// A4, P1, and the whole: and nothing else is: whatever is read is written as it was.
func TestReadIsWrittenAsItWas(t *testing.T) {
	d := draw(2)
	right, wrong := 0, 0
	for range 20000 {
		b := []byte("\x01" + fullBytes)
		for range 1 + d.below(3) {
			switch i := d.below(len(b)); d.below(3) {
			case 0:
				b[i] = byte(d.below(256))
			case 1:
				b = slices.Delete(b, i, i+1)
			default:
				b = slices.Insert(b, i, byte(d.below(8)))
			}
		}
		l, e := image.Read(string(b))
		if e == api.OK {
			right++
			if s, f := image.Write(l); f != api.OK || s != string(b) {
				t.Fatalf("%x is read, but written as %x, %d", b, s, f)
			}
			continue
		}
		wrong++
		if e != api.ErrForm || len(l) != 0 {
			t.Fatalf("%x: %d, with %d classes", b, e, len(l))
		}
	}
	if right < 100 || wrong < 100 {
		t.Errorf("%d right ones, %d wrong ones: too few of one", right, wrong)
	}
}

// P1: bytes of any kind.
func TestReadEndsWhateverItIsHanded(t *testing.T) {
	d := draw(3)
	for range 5000 {
		b := make([]byte, d.below(300))
		for i := range b {
			b[i] = byte(d.below(1 + d.below(256)))
		}
		if l, e := image.Read(string(b)); e != api.OK && len(l) != 0 {
			t.Fatalf("%x: %d, with classes", b, e)
		}
	}
}

// P2: lists that are handed in are as they were, the spare room behind them too.
func TestHandedInIsOnlyRead(t *testing.T) {
	withSpare := func() []api.Class {
		l := append([]api.Class{full()}, api.Class{Name: "spare"})
		c := &l[0]
		c.Fields = append(c.Fields, api.Field{Name: "spare"})
		c.Methods = append(c.Methods, api.Method{Name: "spare"})
		c.Methods[0].Args = append(c.Methods[0].Args, api.Kind{Class: "spare"})
		c.Methods[0].Handlers = append(c.Methods[0].Handlers, api.Handler{Class: "spare"})
		return l
	}
	shorten := func(l []api.Class) []api.Class {
		c := l[0]
		m := c.Methods[0]
		m.Args, m.Handlers = m.Args[:2], m.Handlers[:1]
		c.Methods[0] = m
		c.Fields, c.Methods = c.Fields[:2], c.Methods[:1]
		l[0] = c
		return l[:1]
	}
	used, kept := withSpare(), withSpare()
	short, want := shorten(used), shorten(kept)
	image.Check(short)
	if s := mustWrite(t, short); s != "\x01"+fullBytes {
		t.Errorf("written: %x", s)
	}
	if !reflect.DeepEqual(used, kept) || !reflect.DeepEqual(short, want) {
		t.Errorf("handed in: %v\nwant: %v", used, kept)
	}
	a, b := used[0].Methods[0], kept[0].Methods[0]
	if !reflect.DeepEqual(used[0].Fields[:3], kept[0].Fields[:3]) || !reflect.DeepEqual(used[0].Methods[:2], kept[0].Methods[:2]) ||
		!reflect.DeepEqual(a.Args[:3], b.Args[:3]) || !reflect.DeepEqual(a.Handlers[:2], b.Handlers[:2]) {
		t.Errorf("the spare room was changed")
	}
}

// P2: what is read is new memory, and no two lists of it share any.
func TestAnswersAreNewMemory(t *testing.T) {
	s := "\x02" + fullBytes + fullBytes
	want := mustRead(t, s)
	l := mustRead(t, s)
	for i := range l {
		_ = append(l[i].Fields, api.Field{Name: "x"})
		_ = append(l[i].Methods, api.Method{Name: "x"})
		_ = append(l[i].Methods[0].Args, api.Kind{Class: "x"})
		_ = append(l[i].Methods[0].Handlers, api.Handler{Class: "x"})
	}
	if !reflect.DeepEqual(l, want) {
		t.Errorf("lists share their spare room: %v", l)
	}
	clear(l[0].Fields)
	clear(l[0].Methods[0].Args)
	clear(l[0].Methods[0].Handlers)
	clear(l[0].Methods)
	l[0] = want[0]
	if !reflect.DeepEqual(l, want) || !reflect.DeepEqual(mustRead(t, s), want) {
		t.Errorf("lists are shared: %v", l)
	}
}

// P2: an empty list may be nil or not.
func TestEmptyListsAreNone(t *testing.T) {
	l := []api.Class{{Name: "A", Fields: []api.Field{}, Methods: []api.Method{{Name: "m", Args: []api.Kind{}, Handlers: []api.Handler{}}}}}
	none := []api.Class{{Name: "A", Methods: []api.Method{{Name: "m"}}}}
	if a, b := mustWrite(t, l), mustWrite(t, none); a != b {
		t.Errorf("%x and %x", a, b)
	}
	if s := mustWrite(t, []api.Class{}); s != "\x00" {
		t.Errorf("no classes: %x", s)
	}
}

package link_test

import (
	"math"
	"reflect"
	"slices"
	"strconv"
	"testing"

	"cinder/api"
	"cinder/link"
)

// turned is the tree with something else in it.
func turned(do func(l []api.Class)) []api.Class {
	l := tree()
	do(l)
	return l
}

// deep has a line of classes under TopClass, each with as many fields and methods.
func deep(classes, fields, methods int) []api.Class {
	l := small()
	for i := range classes {
		name := strconv.Itoa(i)
		l = append(l, api.Class{
			Name: "C" + name, Super: "Object",
			Fields:  repeat(fields, func(n int) api.Field { return api.Field{Name: "f" + name + strconv.Itoa(n), Kind: kindInt} }),
			Methods: repeat(methods, func(n int) api.Method { return api.Method{Name: "m" + name + strconv.Itoa(n)} }),
		})
		if i > 0 {
			l[len(l)-1].Super = "C" + strconv.Itoa(i-1)
		}
	}
	return l
}

// deepWith has one more class below the line.
func deepWith(classes, fields, methods int, c api.Class) []api.Class {
	c.Name, c.Super = "Last", "C"+strconv.Itoa(classes-1)
	return append(deep(classes, fields, methods), c)
}

// C1: each error, with its edges.
func TestLinkTellsErrors(t *testing.T) {
	field := func(name string, k api.Kind) []api.Field { return []api.Field{{Name: name, Kind: k}} }
	for _, c := range []struct {
		what string
		l    []api.Class
		want api.Errno
	}{
		{"the least", small(), api.OK},
		{"the tree", tree(), api.OK},
		{"none", nil, api.ErrNone},
		{"no name", turned(func(l []api.Class) { l[tip].Name = "" }), api.ErrForm},
		{"a kind that is none", turned(func(l []api.Class) { l[tip].Fields[0].Kind = api.Kind{} }), api.ErrKind},
		{"too many classes", deep(9, 0, 0), api.ErrMany},
		{"all classes", deep(8, 0, 0), api.OK},
		{"a name twice", append(tree(), tree()[tip]), api.ErrTwice},
		{"TopClass twice", append(tree(), api.Class{Name: "Object"}), api.ErrTwice},
		{"no TopClass", tree()[:top], api.ErrNone},
		{"no ErrorClass", []api.Class{{Name: "Object"}}, api.ErrNone},
		{"names that differ in their letters' size", append(small(), api.Class{Name: "object", Super: "Object"}), api.OK},
		{"TopClass under another one", turned(func(l []api.Class) { l[top].Super = "Node" }), api.ErrState},
		{"TopClass under one that there is not", turned(func(l []api.Class) { l[top].Super = "Q" }), api.ErrState},
		{"another one under none", turned(func(l []api.Class) { l[leaf].Super = "" }), api.ErrState},
		{"a Super that there is not", turned(func(l []api.Class) { l[leaf].Super = "Q" }), api.ErrNone},
		{"under itself", turned(func(l []api.Class) { l[leaf].Super = "Leaf" }), api.ErrState},
		{"a circle of two", turned(func(l []api.Class) { l[node].Super = "Leaf" }), api.ErrState},
		{"a circle of three", turned(func(l []api.Class) { l[node].Super = "Tip" }), api.ErrState},
		{"ErrorClass under another one", turned(func(l []api.Class) { l[failure].Super = "Node" }), api.ErrState},
		{"ErrorClass without fields", turned(func(l []api.Class) { l[failure].Fields = nil }), api.ErrState},
		{"ErrorClass with another field", turned(func(l []api.Class) { l[failure].Fields[0].Kind = object("Node") }), api.ErrState},
		{"ErrorClass with a row", turned(func(l []api.Class) { l[failure].Fields[0].Kind = api.Kind{Kind: api.KindInts} }), api.ErrState},
		{"TopClass's field is not KindInt", turned(func(l []api.Class) { l[top].Fields = field("f", object("Node")) }), api.ErrState},
		{"TopClass's field alone", turned(func(l []api.Class) { l[top].Fields, l[failure].Fields = field("f", kindInt), nil }), api.OK},
		{"TopClass's field ahead", turned(func(l []api.Class) {
			l[top].Fields, l[failure].Fields = field("f", kindInt), field("code", object("Tip"))
		}), api.OK},
		{"a field's class", turned(func(l []api.Class) { l[node].Fields[1].Kind = object("Q") }), api.ErrNone},
		{"a field's row's class", turned(func(l []api.Class) { l[node].Fields[1].Kind = objects("Q") }), api.ErrNone},
		{"an argument's class", turned(func(l []api.Class) { l[node].Methods[1].Args = []api.Kind{kindInt, object("Q")} }), api.ErrNone},
		{"a returned row's class", turned(func(l []api.Class) { l[node].Methods[1].Returns = objects("Q") }), api.ErrNone},
		{"a handler's class", turned(func(l []api.Class) { l[node].Methods[0].Handlers[0].Class = "Q" }), api.ErrNone},
		{"a field twice in a class", turned(func(l []api.Class) { l[node].Fields[1].Name = "val" }), api.ErrTwice},
		{"a field of the one above", turned(func(l []api.Class) { l[leaf].Fields = field("next", kindInt) }), api.ErrTwice},
		{"a field of one further above", turned(func(l []api.Class) { l[tip].Fields = field("next", kindInt) }), api.ErrTwice},
		{"a field of one beside", turned(func(l []api.Class) { l[late].Fields = field("next", kindInt) }), api.OK},
		{"a method twice in a class", turned(func(l []api.Class) { l[node].Methods[1] = l[node].Methods[0] }), api.ErrTwice},
		{"a method by a field's name", turned(func(l []api.Class) { l[node].Methods[1].Name = "val" }), api.OK},
		{"a static method of one that is not", turned(func(l []api.Class) { l[tip].Methods[1].Static = true }), api.ErrState},
		{"a method of a static one", turned(func(l []api.Class) { l[top].Methods[0].Static = true }), api.ErrState},
		{"a static method of a static one just above", turned(func(l []api.Class) { l[tip].Methods[0] = api.Method{Name: "own", Static: true} }), api.ErrState},
		{"a static method of a static one further above", turned(func(l []api.Class) { l[top].Methods[0].Static, l[leaf].Methods[1].Static = true, true }), api.ErrState},
		{"a static method of a static one with other arguments", turned(func(l []api.Class) {
			l[tip].Methods[0] = api.Method{Name: "own", Static: true, Args: []api.Kind{kindInt}}
		}), api.ErrState},
		{"a static method of one beside", turned(func(l []api.Class) { l[late].Methods = []api.Method{{Name: "own", Static: true}} }), api.OK},
		{"three methods, none of them static", turned(func(l []api.Class) { l[tip].Methods[0] = api.Method{Name: "main"} }), api.OK},
		{"three methods, the uppermost one static", turned(func(l []api.Class) {
			l[top].Methods[0].Static, l[tip].Methods[0] = true, api.Method{Name: "main"}
		}), api.ErrState},
		{"a method with fewer arguments", turned(func(l []api.Class) { l[tip].Methods[1].Args = l[tip].Methods[1].Args[:1] }), api.ErrState},
		{"a method with other arguments", turned(func(l []api.Class) { l[tip].Methods[1].Args[1] = object("Leaf") }), api.ErrState},
		{"a method that returns another kind", turned(func(l []api.Class) { l[tip].Methods[1].Returns = object("Leaf") }), api.ErrState},
		{"a method that returns nothing", turned(func(l []api.Class) { l[tip].Methods[1].Returns = api.Kind{} }), api.ErrState},
		{"a method with another stack and code", turned(func(l []api.Class) { l[tip].Methods[1].Stack, l[tip].Methods[1].Code = 5, "\xff" }), api.OK},
		{"another method by the name of one beside", turned(func(l []api.Class) { l[late].Methods = []api.Method{{Name: "own"}} }), api.OK},
		{"all fields", deep(2, 6, 0), api.OK},
		{"a field too many", deepWith(2, 6, 0, api.Class{Fields: field("more", kindInt)}), api.ErrMany},
		{"all names", deep(2, 0, 8), api.OK},
		{"a name too many", deepWith(2, 0, 8, api.Class{Methods: []api.Method{{Name: "more"}}}), api.ErrMany},
		{"all names, and one of them again", deepWith(2, 0, 8, api.Class{Methods: []api.Method{{Name: "m17"}}}), api.OK},
	} {
		k, e := link.Link(c.l)
		if e != c.want {
			t.Errorf("%s: %d, want %d", c.what, e, c.want)
		}
		if e != api.OK && !reflect.DeepEqual(k, api.Linked{}) {
			t.Errorf("%s: %d, with %v", c.what, e, k)
		}
		if got := link.Check(api.Linked{Classes: c.l}); got != api.ErrState {
			t.Errorf("%s: not linked, and Check says %d", c.what, got)
		}
	}
}

// C1: of what is drawn: ErrState, just if a method has the name of one above it, and one of both is static, or both are.
func TestStaticMethodsHaveNamesOfTheirOwn(t *testing.T) {
	d := draw(3)
	tried, wrong := 0, 0
	for range 1200 {
		l := d.classes()
		if _, e := link.Link(l); e != api.OK {
			continue
		}
		static := "m" + strconv.Itoa(d.below(8))
		for _, c := range l {
			for i, m := range c.Methods {
				c.Methods[i].Static = m.Static || m.Name == static && d.below(4) > 0
			}
		}
		want := api.OK
		if staticIsNamedTwice(l) {
			want = api.ErrState
			wrong++
		}
		if _, e := link.Link(l); e != want {
			t.Fatalf("%v: %d, want %d", l, e, want)
		}
		tried++
	}
	if wrong < 50 || tried-wrong < 50 {
		t.Errorf("just %d were tried, and %d of them wrong", tried, wrong)
	}
}

// C1, P1: of several errors the first one named: each is put ahead of all that were put before it.
func TestLinkTellsFirstError(t *testing.T) {
	l := deepWith(2, 6, 3, api.Class{Fields: []api.Field{{Name: "more", Kind: kindInt}}})
	l = append(l, api.Class{Name: "Side", Super: "Error"})
	const first, second, side = 2, 3, 5
	for _, s := range []struct {
		what string
		do   func()
		want api.Errno
	}{
		{"too many fields", func() {}, api.ErrMany},
		{"a method that is not the same", func() { l[second].Methods[0] = api.Method{Name: "m00", Static: true} }, api.ErrState},
		{"two methods", func() { l[second].Methods[1].Name = "m00" }, api.ErrTwice},
		{"a class that there is not", func() { l[side].Methods = []api.Method{{Name: "m", Returns: object("Q")}} }, api.ErrNone},
		{"ErrorClass without fields", func() { l[1].Fields = nil }, api.ErrState},
		{"a Super that there is not", func() { l[side].Super = "Q" }, api.ErrNone},
		{"a class under none", func() { l[first].Super = "" }, api.ErrState},
		{"no ErrorClass", func() { l[1].Name = "Err" }, api.ErrNone},
		{"two classes", func() { l[side].Name = "Err" }, api.ErrTwice},
		{"a name that is none", func() { l[side].Name = "?" }, api.ErrForm},
	} {
		s.do()
		if _, e := link.Link(l); e != s.want {
			t.Errorf("%s: %d, want %d", s.what, e, s.want)
		}
	}
}

// C1: a class above itself is told ahead of a class that there is not; a Super that there is not ahead of that.
func TestCircleIsToldInItsTurn(t *testing.T) {
	l := turned(func(l []api.Class) { l[node].Super, l[late].Fields[0].Kind = "Tip", object("Q") })
	if _, e := link.Link(l); e != api.ErrState {
		t.Errorf("a circle: %d", e)
	}
	l[late].Super = "Q"
	if _, e := link.Link(l); e != api.ErrNone {
		t.Errorf("a circle, and a Super that there is not: %d", e)
	}
}

// C2: what is made of the tree.
func TestLinked(t *testing.T) {
	k := mustLink(t, tree())
	if !reflect.DeepEqual(k.Classes, tree()) {
		t.Errorf("classes: %v", k.Classes)
	}
	if want := []int{leaf, failure, top, node, top, -1}; !slices.Equal(k.Supers, want) {
		t.Errorf("supers: %v, want %v", k.Supers, want)
	}
	of := func(l []api.Field) []string {
		var names []string
		for _, f := range l {
			names = append(names, f.Name)
		}
		return names
	}
	for i, want := range [][]string{{"val", "next", "end"}, {"code", "when"}, {"code"}, {"val", "next"}, {"val", "next"}, nil} {
		if got := of(k.Fields[i]); !slices.Equal(got, want) {
			t.Errorf("fields of %d: %v, want %v", i, got, want)
		}
	}
	if got, want := k.Fields[tip][2], (api.Field{Name: "end", Kind: objects("Tip")}); got != want {
		t.Errorf("a field: %v, want %v", got, want)
	}
	main, walk, side := api.Target{Class: top}, api.Target{Class: node}, api.Target{Class: node, Method: 1}
	own, leafs := api.Target{Class: leaf}, api.Target{Class: leaf, Method: 1}
	for i, want := range []struct {
		names   []string
		targets []api.Target
	}{
		{[]string{"main", "walk", "side", "own", "last"}, []api.Target{leafs, {Class: tip, Method: 1}, side, own, {Class: tip}}},
		{[]string{"main"}, []api.Target{main}},
		{[]string{"main"}, []api.Target{main}},
		{[]string{"main", "walk", "side", "own"}, []api.Target{leafs, walk, side, own}},
		{[]string{"main", "walk", "side"}, []api.Target{main, walk, side}},
		{[]string{"main"}, []api.Target{main}},
	} {
		if !slices.Equal(k.Names[i], want.names) || !slices.Equal(k.Targets[i], want.targets) {
			t.Errorf("names of %d: %v %v, want %v", i, k.Names[i], k.Targets[i], want)
		}
	}
}

// C3: whatever is changed in what Link makes is seen.
func TestCheckSeesWhatIsNotLinked(t *testing.T) {
	if e := link.Check(mustLink(t, tree())); e != api.OK {
		t.Errorf("what Link makes: %d", e)
	}
	for what, change := range map[string]func(k *api.Linked){
		"nothing at all":     func(k *api.Linked) { *k = api.Linked{} },
		"no classes":         func(k *api.Linked) { k.Classes = nil },
		"a class less":       func(k *api.Linked) { k.Classes = k.Classes[1:] },
		"another name":       func(k *api.Linked) { k.Classes[tip].Name = "Top" },
		"a wrong class":      func(k *api.Linked) { k.Classes[tip].Name = "?" },
		"another Super":      func(k *api.Linked) { k.Classes[tip].Super = "Node" },
		"another field":      func(k *api.Linked) { k.Classes[tip].Fields[0].Kind = kindInt },
		"another method":     func(k *api.Linked) { k.Classes[tip].Methods[0].Name = "first" },
		"no supers":          func(k *api.Linked) { k.Supers = nil },
		"a super less":       func(k *api.Linked) { k.Supers = k.Supers[:top] },
		"a super more":       func(k *api.Linked) { k.Supers = append(k.Supers, 0) },
		"another super":      func(k *api.Linked) { k.Supers[tip] = node },
		"a super that isn't": func(k *api.Linked) { k.Supers[tip] = 99 },
		"a top with one":     func(k *api.Linked) { k.Supers[top] = -2 },
		"no fields":          func(k *api.Linked) { k.Fields = nil },
		"fields of one less": func(k *api.Linked) { k.Fields = k.Fields[:top] },
		"fields of one more": func(k *api.Linked) { k.Fields = append(k.Fields, nil) },
		"one's fields gone":  func(k *api.Linked) { k.Fields[tip] = nil },
		"a field less":       func(k *api.Linked) { k.Fields[tip] = k.Fields[tip][:2] },
		"a field's name":     func(k *api.Linked) { k.Fields[tip][0].Name = "v" },
		"a field's class":    func(k *api.Linked) { k.Fields[tip][1].Kind.Class = "Leaf" },
		"fields changed":     func(k *api.Linked) { l := k.Fields[node]; l[0], l[1] = l[1], l[0] },
		"no names":           func(k *api.Linked) { k.Names = nil },
		"names of one more":  func(k *api.Linked) { k.Names = append(k.Names, nil) },
		"a name less":        func(k *api.Linked) { k.Names[tip] = k.Names[tip][:4] },
		"another one":        func(k *api.Linked) { k.Names[top][0] = "name" },
		"no targets":         func(k *api.Linked) { k.Targets = nil },
		"targets of one":     func(k *api.Linked) { k.Targets = append(k.Targets, nil) },
		"a target less":      func(k *api.Linked) { k.Targets[tip] = k.Targets[tip][:4] },
		"a target's class":   func(k *api.Linked) { k.Targets[leaf][1].Class = tip },
		"a target's method":  func(k *api.Linked) { k.Targets[leaf][1].Method = 1 },
	} {
		k := mustLink(t, tree())
		change(&k)
		if e := link.Check(k); e != api.ErrState {
			t.Errorf("%s: %d", what, e)
		}
		// Whatever else they are asked, the others tell this first.
		if n, e := link.Find(k, "Q"); n != 0 || e != api.ErrState {
			t.Errorf("%s: Find says %d, %d", what, n, e)
		}
		if is, e := link.Is(k, -1, 0); is || e != api.ErrState {
			t.Errorf("%s: Is says %v, %d", what, is, e)
		}
		if n, e := link.Above(k, 0, 99); n != 0 || e != api.ErrState {
			t.Errorf("%s: Above says %d, %d", what, n, e)
		}
		if m, e := link.Target(k, -1, "Q"); m != (api.Target{}) || e != api.ErrState {
			t.Errorf("%s: Target says %v, %d", what, m, e)
		}
	}
}

// C3: what does not come from the classes' linking does not matter.
func TestCheckPassesWhatIsTheSame(t *testing.T) {
	k := mustLink(t, tree())
	k.Classes[tip].Methods[0].Code, k.Classes[tip].Methods[0].Stack = "\x00", 3
	k.Fields[top] = []api.Field{}
	if e := link.Check(k); e != api.OK {
		t.Errorf("other code, and an empty list: %d", e)
	}
	k = mustLink(t, small())
	k.Names, k.Targets = [][]string{nil, {}}, [][]api.Target{{}, nil}
	if e := link.Check(k); e != api.OK {
		t.Errorf("empty lists: %d", e)
	}
}

// C3: a class's number that is none.
func TestNumbersOfClassesHaveRanges(t *testing.T) {
	k := mustLink(t, tree())
	for _, n := range []int{-1, len(k.Classes), math.MinInt, math.MaxInt} {
		for _, pair := range [][2]int{{n, 0}, {0, n}, {n, n}} {
			if is, e := link.Is(k, pair[0], pair[1]); is || e != api.ErrRange {
				t.Errorf("%v: Is says %v, %d", pair, is, e)
			}
			if above, e := link.Above(k, pair[0], pair[1]); above != 0 || e != api.ErrRange {
				t.Errorf("%v: Above says %d, %d", pair, above, e)
			}
		}
		if m, e := link.Target(k, n, "Q"); m != (api.Target{}) || e != api.ErrRange {
			t.Errorf("%d: Target says %v, %d", n, m, e)
		}
	}
}

// C4: Find.
func TestFind(t *testing.T) {
	k := mustLink(t, tree())
	for i, c := range k.Classes {
		if n, e := link.Find(k, c.Name); n != i || e != api.OK {
			t.Errorf("%s: %d, %d", c.Name, n, e)
		}
	}
	for _, name := range []string{"", "tip", "Tip ", "Q", "walk"} {
		if n, e := link.Find(k, name); n != 0 || e != api.ErrNone {
			t.Errorf("%q: %d, %d", name, n, e)
		}
	}
}

// C4: Is and Above, of each pair.
func TestIsAndAbove(t *testing.T) {
	k := mustLink(t, tree())
	under := [][]int{tip: {tip, leaf, node, top}, late: {late, failure, top}, failure: {failure, top}, leaf: {leaf, node, top}, node: {node, top}, top: {top}}
	for a := range under {
		for b := range under {
			if is, e := link.Is(k, a, b); is != slices.Contains(under[a], b) || e != api.OK {
				t.Errorf("is %d %d: %v, %d", a, b, is, e)
			}
			lowest := under[a][slices.IndexFunc(under[a], func(n int) bool { return slices.Contains(under[b], n) })]
			if n, e := link.Above(k, a, b); n != lowest || e != api.OK {
				t.Errorf("above %d and %d: %d, %d, want %d", a, b, n, e, lowest)
			}
		}
	}
}

// C4: Target.
func TestTarget(t *testing.T) {
	k := mustLink(t, tree())
	for _, c := range []struct {
		class int
		name  string
		want  api.Target
		err   api.Errno
	}{
		{tip, "walk", api.Target{Class: tip, Method: 1}, api.OK},
		{leaf, "walk", api.Target{Class: node}, api.OK},
		{node, "walk", api.Target{Class: node}, api.OK},
		{tip, "main", api.Target{Class: leaf, Method: 1}, api.OK},
		{late, "main", api.Target{Class: top}, api.OK},
		{tip, "side", api.Target{Class: node, Method: 1}, api.OK},
		{node, "own", api.Target{}, api.ErrNone},
		{late, "walk", api.Target{}, api.ErrNone},
		{tip, "", api.Target{}, api.ErrNone},
		{tip, "val", api.Target{}, api.ErrNone},
	} {
		if got, e := link.Target(k, c.class, c.name); got != c.want || e != c.err {
			t.Errorf("%d %s: %v, %d, want %v, %d", c.class, c.name, got, e, c.want, c.err)
		}
	}
}

// C5, and the whole: whoever is under a class has its fields and names, in their places; C4 holds of what is drawn, too.
func TestUnderAClassIsAllOfIt(t *testing.T) {
	d := draw(1)
	linked := 0
	for range 300 {
		l := d.classes()
		k, e := link.Link(l)
		if e != api.OK {
			if e != api.ErrTwice && e != api.ErrMany {
				t.Fatalf("%v: %d", l, e)
			}
			continue
		}
		linked++
		for a := range l {
			for b := range l {
				is, _ := link.Is(k, a, b)
				if is != isUnder(l, l[a].Name, l[b].Name) {
					t.Fatalf("%v: is %d %d: %v", l, a, b, is)
				}
				if is && (!begins(k.Fields[a], k.Fields[b]) || !begins(k.Names[a], k.Names[b])) {
					t.Fatalf("%v: %d has not all of %d", k, a, b)
				}
			}
			checkTargets(t, k, a)
		}
	}
	if linked < 100 {
		t.Errorf("just %d were linked", linked)
	}
}

func begins[T comparable](l, with []T) bool {
	return len(l) >= len(with) && slices.Equal(l[:len(with)], with)
}

// checkTargets: each is a method by that name, of the lowest class that has one.
func checkTargets(t *testing.T, k api.Linked, class int) {
	t.Helper()
	if len(k.Names[class]) != len(k.Targets[class]) {
		t.Fatalf("%v: names and targets of %d", k, class)
	}
	for i, name := range k.Names[class] {
		n := class
		at := -1
		for at < 0 {
			at = slices.IndexFunc(k.Classes[n].Methods, func(m api.Method) bool { return m.Name == name })
			if at < 0 {
				n = k.Supers[n]
			}
		}
		if want := (api.Target{Class: n, Method: at}); k.Targets[class][i] != want {
			t.Fatalf("%v: %s of %d: want %v", k, name, class, want)
		}
	}
}

// P1: none panics, whatever it is handed.
func TestCallsEndWhateverTheyAreHanded(t *testing.T) {
	d := draw(2)
	for range 2000 {
		k := mustLink(t, tree())
		odd := []int{-1, 0, 3, 6, 99, math.MinInt, math.MaxInt}
		switch d.below(5) {
		case 0:
			k.Classes = d.classes()
		case 1:
			k.Supers = repeat(d.below(9), func(int) int { return odd[d.below(len(odd))] })
		case 2:
			k.Fields = repeat(d.below(9), func(int) []api.Field { return make([]api.Field, d.below(3)) })
		case 3:
			k.Names = repeat(d.below(9), func(int) []string { return make([]string, d.below(9)) })
		case 4:
			k.Targets = repeat(d.below(9), func(int) []api.Target { return make([]api.Target, d.below(9)) })
		}
		a, b := odd[d.below(len(odd))], odd[d.below(len(odd))]
		if e := link.Check(k); e != api.ErrState {
			t.Fatalf("%v: %d", k, e)
		}
		link.Link(k.Classes)
		link.Find(k, "Tip")
		link.Is(k, a, b)
		link.Above(k, a, b)
		link.Target(k, a, "walk")
	}
}

// spared has room behind each of its lists, with something in it; hidden is what stands there.
func spared() (l []api.Class, hidden func() []any) {
	l = append(tree(), api.Class{Name: "spare"})
	c := &l[node]
	c.Fields = append(c.Fields, api.Field{Name: "spare"})
	m := &c.Methods[0]
	m.Args = append(m.Args, api.Kind{Class: "spare"})
	m.Handlers = append(m.Handlers, api.Handler{Class: "spare"})
	c.Methods = append(c.Methods, api.Method{Name: "spare"})
	m = &c.Methods[0]
	all := []any{l, c.Fields, c.Methods, m.Args, m.Handlers}
	m.Args, m.Handlers = m.Args[:2], m.Handlers[:1]
	c.Fields, c.Methods = c.Fields[:2], c.Methods[:2]
	return l[:top+1], func() []any { return all }
}

// P2: what is handed in is as it was, the spare room behind it too.
func TestHandedInIsOnlyRead(t *testing.T) {
	l, used := spared()
	_, kept := spared()
	k := mustLink(t, l)
	if !reflect.DeepEqual(used(), kept()) {
		t.Errorf("Link changed what it was handed: %v", used())
	}
	before := mustLink(t, tree())
	link.Check(k)
	link.Find(k, "Tip")
	link.Is(k, tip, top)
	link.Above(k, tip, late)
	link.Target(k, tip, "walk")
	if !reflect.DeepEqual(k, before) {
		t.Errorf("what was linked is %v, was %v", k, before)
	}
}

// P2: what is answered is new memory: a later change of what was handed in is not seen.
func TestLinkedIsNewMemory(t *testing.T) {
	l := tree()
	k := mustLink(t, l)
	for _, c := range l {
		for _, m := range c.Methods {
			clear(m.Args)
			clear(m.Handlers)
		}
		clear(c.Fields)
		clear(c.Methods)
	}
	clear(l)
	if want := mustLink(t, tree()); !reflect.DeepEqual(k, want) {
		t.Errorf("it shares what it was handed: %v", k)
	}
}

// P2: no two lists of an answer share memory, nor the room behind them.
func TestListsOfLinkedShareNothing(t *testing.T) {
	want := mustLink(t, tree())
	k := mustLink(t, tree())
	for i := range k.Classes {
		_ = append(k.Classes[i].Fields, api.Field{Name: "x"})
		_ = append(k.Classes[i].Methods, api.Method{Name: "x"})
		_ = append(k.Fields[i], api.Field{Name: "x"})
		_ = append(k.Names[i], "x")
		_ = append(k.Targets[i], api.Target{Class: 9})
	}
	_ = append(k.Classes[node].Methods[0].Args, api.Kind{Class: "x"})
	if !reflect.DeepEqual(k, want) {
		t.Errorf("lists share their spare room: %v", k)
	}
	clear(k.Fields[node])
	clear(k.Names[node])
	clear(k.Targets[node])
	k.Fields[node], k.Names[node], k.Targets[node] = want.Fields[node], want.Names[node], want.Targets[node]
	clear(k.Classes[failure].Fields)
	k.Classes[failure].Fields = want.Classes[failure].Fields
	if !reflect.DeepEqual(k, want) {
		t.Errorf("lists are shared: %v", k)
	}
}

// P3: the same each time.
func TestLinkAnswersTheSame(t *testing.T) {
	want := mustLink(t, tree())
	for range 20 {
		if k := mustLink(t, tree()); !reflect.DeepEqual(k, want) {
			t.Fatalf("%v, and then %v", want, k)
		}
	}
}

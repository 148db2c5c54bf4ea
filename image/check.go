package image

import (
	"cinder/api"
	"cinder/wire"
)

func demand(holds bool, e api.Errno) {
	if !holds {
		wire.GiveUp(api.Fault{Err: e})
	}
}

func within(n, most int) bool { return n >= 0 && n <= most }

func isNameByte(b byte) bool {
	return b >= 'a' && b <= 'z' || b >= 'A' && b <= 'Z' || b >= '0' && b <= '9' || b == '_'
}

func isName(s string) bool {
	if len(s) < 1 || len(s) > api.MaxName {
		return false
	}
	for i := range len(s) {
		if !isNameByte(s[i]) {
			return false
		}
	}
	return true
}

func hasClass(kind int) bool { return kind == api.KindObject || kind == api.KindObjects }

func isRight(k api.Kind) bool {
	if hasClass(k.Kind) {
		return isName(k.Class)
	}
	return (k.Kind == api.KindInt || k.Kind == api.KindInts) && k.Class == ""
}

func isReturned(k api.Kind) bool {
	return isRight(k) || k.Kind == api.KindNone && k.Class == ""
}

func checkClasses(l []api.Class) {
	demand(len(l) <= api.MaxClasses, api.ErrMany)
	for _, c := range l {
		checkClass(c)
	}
}

func checkClass(c api.Class) {
	demand(isName(c.Name), api.ErrForm)
	demand(c.Super == "" || isName(c.Super), api.ErrForm)
	demand(len(c.Fields) <= api.MaxFields, api.ErrMany)
	demand(len(c.Methods) <= api.MaxMethods, api.ErrMany)
	for _, f := range c.Fields {
		demand(isName(f.Name), api.ErrForm)
		demand(isRight(f.Kind), api.ErrKind)
	}
	for _, m := range c.Methods {
		checkMethod(m)
	}
}

func checkMethod(m api.Method) {
	demand(isName(m.Name), api.ErrForm)
	demand(len(m.Args) <= api.MaxArgs, api.ErrMany)
	demand(len(m.Code) <= api.MaxCode, api.ErrMany)
	demand(len(m.Handlers) <= api.MaxHandlers, api.ErrMany)
	demand(within(m.Stack, api.MaxStack), api.ErrRange)
	demand(within(m.Locals, api.MaxLocals), api.ErrRange)
	for _, k := range m.Args {
		demand(isRight(k), api.ErrKind)
	}
	demand(isReturned(m.Returns), api.ErrKind)
	for _, h := range m.Handlers {
		checkHandler(h)
	}
}

func checkHandler(h api.Handler) {
	demand(isName(h.Class), api.ErrForm)
	demand(within(h.From, api.MaxCode), api.ErrRange)
	demand(within(h.To, api.MaxCode), api.ErrRange)
	demand(within(h.At, api.MaxCode), api.ErrRange)
}

package image

import (
	"cinder/api"
	"cinder/fault"
)

func within(n, most int) bool { return n >= 0 && n <= most }

func isNameByte(b byte) bool {
	return b >= 'a' && b <= 'z' || b >= 'A' && b <= 'Z' || b >= '0' && b <= '9' || b == '_'
}

func isName(s string) bool {
	if len(s) < 1 || len(s) > api.MaxName {
		return false
	}
	for i := range len(s) {
		if !isNameByte(s[i]) {
			return false
		}
	}
	return true
}

func hasClass(kind int) bool { return kind == api.KindObject || kind == api.KindObjects }

func isRight(k api.Kind) bool {
	if hasClass(k.Kind) {
		return isName(k.Class)
	}
	return (k.Kind == api.KindInt || k.Kind == api.KindInts) && k.Class == ""
}

func isReturned(k api.Kind) bool {
	return isRight(k) || k.Kind == api.KindNone && k.Class == ""
}

func checkClasses(l []api.Class) {
	fault.Demand(len(l) <= api.MaxClasses, api.ErrMany)
	for _, c := range l {
		checkClass(c)
	}
}

func checkClass(c api.Class) {
	fault.Demand(isName(c.Name), api.ErrForm)
	fault.Demand(c.Super == "" || isName(c.Super), api.ErrForm)
	fault.Demand(len(c.Fields) <= api.MaxFields, api.ErrMany)
	fault.Demand(len(c.Methods) <= api.MaxMethods, api.ErrMany)
	for _, f := range c.Fields {
		fault.Demand(isName(f.Name), api.ErrForm)
		fault.Demand(isRight(f.Kind), api.ErrKind)
	}
	for _, m := range c.Methods {
		checkMethod(m)
	}
}

func checkMethod(m api.Method) {
	fault.Demand(isName(m.Name), api.ErrForm)
	fault.Demand(len(m.Args) <= api.MaxArgs, api.ErrMany)
	fault.Demand(len(m.Code) <= api.MaxCode, api.ErrMany)
	fault.Demand(len(m.Handlers) <= api.MaxHandlers, api.ErrMany)
	fault.Demand(within(m.Stack, api.MaxStack), api.ErrRange)
	fault.Demand(within(m.Locals, api.MaxLocals), api.ErrRange)
	for _, k := range m.Args {
		fault.Demand(isRight(k), api.ErrKind)
	}
	fault.Demand(isReturned(m.Returns), api.ErrKind)
	for _, h := range m.Handlers {
		checkHandler(h)
	}
}

func checkHandler(h api.Handler) {
	fault.Demand(isName(h.Class), api.ErrForm)
	fault.Demand(within(h.From, api.MaxCode), api.ErrRange)
	fault.Demand(within(h.To, api.MaxCode), api.ErrRange)
	fault.Demand(within(h.At, api.MaxCode), api.ErrRange)
}

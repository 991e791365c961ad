package marshal_test

import (
	"strings"

	"marshal/api"
	"marshal/tree"
)

// bytesModel says what P9 says, as plainly as it can be said: by going down the tree of a text. What is wrong it throws.
type bytesModel struct {
	types map[string]tree.Def
	b     string
	lim   api.Limits
	at    int
	v     []api.Node
}

// modelDecode gives what Decode should, an error as its number and place.
func modelDecode(types map[string]tree.Def, name string, b string, lim api.Limits) (v []api.Node, e api.Errno, at int) {
	if types[name] == nil {
		return nil, api.ErrNone, -1
	}
	if lim.Depth < 0 || lim.Depth > 64 || lim.Fuel < 0 || lim.Fuel > 10000 || lim.Size < 0 || lim.Size > 100000 {
		return nil, api.ErrLimits, -1
	}
	defer func() {
		if f, ok := recover().(api.Fault); ok {
			v, e, at = nil, f.E, f.At
		}
	}()
	m := &bytesModel{types: types, b: b, lim: lim}
	m.check(len(b) <= lim.Size, api.ErrSize, 0)
	m.named(name, 0)
	m.check(m.at == len(b), api.ErrTail, m.at)
	return m.v, api.OK, 0
}

func (m *bytesModel) check(holds bool, e api.Errno, at int) {
	if !holds {
		panic(api.Fault{E: e, At: at})
	}
}

// part gives the next bytes; all of them must be there.
func (m *bytesModel) part(n int64) string {
	m.check(int64(m.at)+n <= int64(len(m.b)), api.ErrShort, m.at)
	m.at += int(n)
	return m.b[m.at-int(n) : m.at]
}

func (m *bytesModel) word() int64 {
	p := m.part(4)
	return int64(p[0])*(1<<24) + int64(p[1])*(1<<16) + int64(p[2])*(1<<8) + int64(p[3])
}

// signed is a word that may be below nought.
func (m *bytesModel) signed() int64 {
	n := m.word()
	if n >= 1<<31 {
		n -= 1 << 32
	}
	return n
}

// begin is what is asked ahead of a node's bytes.
func (m *bytesModel) begin() { m.check(len(m.v) < m.lim.Fuel, api.ErrFuel, m.at) }

func (m *bytesModel) put(n api.Node) { m.v = append(m.v, n) }

func (m *bytesModel) named(name string, within int) {
	m.check(within < m.lim.Depth, api.ErrDepth, m.at)
	switch d := m.types[name].(type) {
	case *tree.Typedef:
		m.value(d.Type, within+1)
	case *tree.Enum:
		m.begin()
		n := m.signed()
		m.check(d.Has(n), api.ErrWrong, m.at-4)
		m.put(num(n))
	case *tree.Struct:
		m.begin()
		m.put(list(len(d.Members)))
		for _, member := range d.Members {
			m.value(member.Type, within+1)
		}
	case *tree.Union:
		m.union(d, within+1)
	}
}

func (m *bytesModel) value(t tree.Type, within int) {
	switch t := t.(type) {
	case tree.Named:
		m.named(t.Text, within)
	case tree.Plain:
		m.begin()
		m.put(num(m.plain(t.Kind)))
	case tree.Opaque:
		m.text(t.Bound)
	case tree.String:
		m.text(t.Bound)
	case tree.Array:
		m.begin()
		n := m.count(t.Bound)
		m.put(list(int(n)))
		for range n {
			m.value(t.Of, within)
		}
	case tree.Optional:
		m.begin()
		n := m.word()
		m.check(n <= 1, api.ErrWrong, m.at-4)
		m.put(arm(n, int(n)))
		if n == 1 {
			m.value(t.Of, within)
		}
	}
}

func (m *bytesModel) plain(k tree.Kind) int64 {
	switch k {
	case tree.Int:
		return m.signed()
	case tree.Unsigned:
		return m.word()
	case tree.Bool:
		n := m.word()
		m.check(n <= 1, api.ErrWrong, m.at-4)
		return n
	}
	m.part(8)
	m.at -= 8
	return m.word()<<32 + m.word()
}

// count gives how many bytes or values there are.
func (m *bytesModel) count(b tree.Bound) int64 {
	if b.Fixed {
		return b.N
	}
	n := m.word()
	m.check(n <= b.N, api.ErrCount, m.at-4)
	return n
}

func (m *bytesModel) text(b tree.Bound) {
	m.begin()
	n := m.count(b)
	at := m.at
	padding := (4 - n%4) % 4
	s := m.part(n + padding)
	if pad := strings.TrimLeft(s[n:], "\x00"); pad != "" {
		m.check(false, api.ErrPad, m.at-len(pad))
	}
	m.put(textAt(s[:n], at))
}

func (m *bytesModel) union(d *tree.Union, within int) {
	m.begin()
	n := m.number(d.By.Type)
	var body tree.Type
	for _, a := range d.Arms {
		for _, c := range a.Cases {
			if c == n {
				body = a.Body.Type
			}
		}
		if len(a.Cases) == 0 && body == nil {
			body = a.Body.Type
		}
	}
	m.check(body != nil, api.ErrWrong, m.at-4)
	if _, void := body.(tree.Void); void {
		m.put(arm(n, 0))
		return
	}
	m.put(arm(n, 1))
	m.value(body, within)
}

// number gives a union's number.
func (m *bytesModel) number(t tree.Type) int64 {
	switch t := t.(type) {
	case tree.Named:
		n := m.signed()
		m.check(m.types[t.Text].(*tree.Enum).Has(n), api.ErrWrong, m.at-4)
		return n
	case tree.Plain:
		return m.plain(t.Kind)
	}
	return 0
}

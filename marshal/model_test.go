package marshal_test

import (
	"math"

	"marshal/api"
	"marshal/parse"
	"marshal/tree"
)

// model says what P8 says, as plainly as it can be said: by going down the tree of a text. What is wrong it throws.
type model struct {
	types map[string]tree.Def
	v     []api.Node
	lim   api.Limits
	at    int
	out   string
}

// modelTypes gives the types of a text by their names.
func modelTypes(source string) map[string]tree.Def {
	types := map[string]tree.Def{}
	for _, d := range parse.Text(source) {
		switch d.(type) {
		case *tree.Typedef, *tree.Enum, *tree.Struct, *tree.Union:
			types[d.Title().Text] = d
		}
	}
	return types
}

// modelEncode gives what Encode should, an error as its number and place.
func modelEncode(types map[string]tree.Def, name string, v []api.Node, lim api.Limits) (b string, e api.Errno, at int) {
	if types[name] == nil {
		return "", api.ErrNone, -1
	}
	if lim.Depth < 0 || lim.Depth > 64 || lim.Fuel < 0 || lim.Fuel > 10000 || lim.Size < 0 || lim.Size > 100000 {
		return "", api.ErrLimits, -1
	}
	defer func() {
		if f, ok := recover().(api.Fault); ok {
			b, e, at = "", f.E, f.At
		}
	}()
	m := &model{types: types, v: v, lim: lim}
	m.named(name, 0)
	if m.at < len(v) {
		m.throw(api.ErrType)
	}
	return m.out, api.OK, 0
}

func (m *model) throw(e api.Errno) { panic(api.Fault{E: e, At: m.at}) }

func (m *model) named(name string, within int) {
	if within >= m.lim.Depth {
		m.throw(api.ErrDepth)
	}
	switch d := m.types[name].(type) {
	case *tree.Typedef:
		m.value(d.Type, within+1)
	case *tree.Enum:
		n := m.node(api.KNum)
		m.step(d.Has(n.N), modelWord(n.N))
	case *tree.Struct:
		n := m.node(api.KList)
		m.step(n.Len == len(d.Members), "")
		for _, member := range d.Members {
			m.value(member.Type, within+1)
		}
	case *tree.Union:
		m.union(d, within+1)
	}
}

func (m *model) value(t tree.Type, within int) {
	switch t := t.(type) {
	case tree.Named:
		m.named(t.Text, within)
	case tree.Plain:
		n := m.node(api.KNum)
		own := modelWord(n.N)
		if t.Kind == tree.Hyper || t.Kind == tree.UnsignedHyper {
			own = modelWord(n.N>>32) + own
		}
		m.step(m.canBe(t, n.N), own)
	case tree.Opaque:
		m.text(t.Bound)
	case tree.String:
		m.text(t.Bound)
	case tree.Array:
		for range m.list(t.Bound) {
			m.value(t.Of, within)
		}
	case tree.Optional:
		n := m.node(api.KArm)
		m.step(n.N == 0 && n.Len == 0 || n.N == 1 && n.Len == 1, modelWord(n.N))
		if n.N == 1 {
			m.value(t.Of, within)
		}
	}
}

// canBe tells whether a number is of a type.
func (m *model) canBe(t tree.Type, n int64) bool {
	switch t := t.(type) {
	case tree.Named:
		return m.types[t.Text].(*tree.Enum).Has(n)
	case tree.Plain:
		switch t.Kind {
		case tree.Int:
			return n == int64(int32(n))
		case tree.Unsigned:
			return n == int64(uint32(n))
		case tree.Bool:
			return n == 0 || n == 1
		}
	}
	return true
}

func (m *model) text(b tree.Bound) {
	n := m.node(api.KText)
	own := n.S
	for len(own)%4 != 0 {
		own += "\x00"
	}
	if b.Fixed {
		m.step(int64(len(n.S)) == b.N, own)
	} else {
		m.step(int64(len(n.S)) <= b.N, modelWord(int64(len(n.S)))+own)
	}
}

func (m *model) list(b tree.Bound) int {
	n := m.node(api.KList)
	if b.Fixed {
		m.step(int64(n.Len) == b.N, "")
	} else {
		m.step(n.Len >= 0 && int64(n.Len) <= b.N, modelWord(int64(n.Len)))
	}
	return n.Len
}

func (m *model) union(d *tree.Union, within int) {
	n := m.node(api.KArm)
	var body tree.Type
	for _, a := range d.Arms {
		for _, c := range a.Cases {
			if c == n.N {
				body = a.Body.Type
			}
		}
		if len(a.Cases) == 0 && body == nil {
			body = a.Body.Type
		}
	}
	_, void := body.(tree.Void)
	m.step(body != nil && m.canBe(d.By.Type, n.N) && (n.Len == 0 && void || n.Len == 1 && !void), modelWord(n.N))
	if !void {
		m.value(body, within)
	}
}

// node is the one at hand.
func (m *model) node(kind int) api.Node {
	if m.at >= m.lim.Fuel {
		m.throw(api.ErrFuel)
	}
	if m.at >= len(m.v) || m.v[m.at].Kind != kind {
		m.throw(api.ErrType)
	}
	return m.v[m.at]
}

// step ends with the node at hand: does it fit, and what are its own bytes?
func (m *model) step(fits bool, own string) {
	if !fits {
		m.throw(api.ErrType)
	}
	if len(m.out)+len(own) > m.lim.Size {
		m.throw(api.ErrSize)
	}
	m.out += own
	m.at++
}

func modelWord(n int64) string {
	u := uint32(n & math.MaxUint32)
	return string([]byte{byte(u >> 24), byte(u >> 16), byte(u >> 8), byte(u)})
}

// grower makes values of types, by numbers that are thrown.
type grower struct {
	types map[string]tree.Def
	throw func(n int) int
	v     []api.Node
}

func (g *grower) put(n api.Node) { g.v = append(g.v, n) }

// some gives one of a few numbers, most of them edges.
func (g *grower) some(numbers ...int64) int64 { return numbers[g.throw(len(numbers))] }

func (g *grower) named(name string) {
	switch d := g.types[name].(type) {
	case *tree.Typedef:
		g.value(d.Type)
	case *tree.Enum:
		g.put(num(d.Members[g.throw(len(d.Members))].Value))
	case *tree.Struct:
		g.put(list(len(d.Members)))
		for _, m := range d.Members {
			g.value(m.Type)
		}
	case *tree.Union:
		g.union(d)
	}
}

func (g *grower) union(d *tree.Union) {
	a := d.Arms[g.throw(len(d.Arms))]
	n := g.some(0, 1, -1, 7, math.MaxInt32, math.MaxUint32) // a default arm may be missed so
	if len(a.Cases) > 0 {
		n = a.Cases[g.throw(len(a.Cases))]
	}
	if _, void := a.Body.Type.(tree.Void); void {
		g.put(arm(n, 0))
		return
	}
	g.put(arm(n, 1))
	g.value(a.Body.Type)
}

func (g *grower) value(t tree.Type) {
	switch t := t.(type) {
	case tree.Named:
		g.named(t.Text)
	case tree.Plain:
		switch t.Kind {
		case tree.Int:
			g.put(num(g.some(0, -1, math.MinInt32, math.MaxInt32)))
		case tree.Unsigned:
			g.put(num(g.some(0, 1, math.MaxUint32, math.MaxInt32+1)))
		case tree.Bool:
			g.put(num(g.some(0, 1)))
		default:
			g.put(num(g.some(0, -1, math.MinInt64, math.MaxInt64, 1<<32+7)))
		}
	case tree.Opaque:
		g.put(text("some bytes, more than there may be"[:g.count(t.Bound)]))
	case tree.String:
		g.put(text("some bytes, more than there may be"[:g.count(t.Bound)]))
	case tree.Array:
		n := g.count(t.Bound)
		g.put(list(n))
		for range n {
			g.value(t.Of)
		}
	case tree.Optional:
		n := 0
		if len(g.v) < 60 {
			n = g.throw(2)
		}
		g.put(arm(int64(n), n))
		if n == 1 {
			g.value(t.Of)
		}
	}
}

// count gives how many there are; what may be empty is so when there is much already, so that all values end.
func (g *grower) count(b tree.Bound) int {
	if b.Fixed {
		return int(b.N)
	}
	if len(g.v) >= 60 {
		return 0
	}
	return g.throw(int(min(b.N, 4)) + 1)
}

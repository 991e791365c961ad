package marshal_test

import (
	"marshal/api"
	"marshal/parse"
	"marshal/tree"
)

// serverModel says what P12 and P13 say, as plainly as it can be said: of all that was fed, from the beginning on.
type serverModel struct {
	programs []*tree.Program
	types    map[string]tree.Def
	lim      api.Limits
	most     int
	answer   api.Answer
}

func modelServe(source string, lim api.Limits, most int, answer api.Answer) *serverModel {
	m := &serverModel{types: modelTypes(source), lim: lim, most: most, answer: answer}
	for _, d := range parse.Text(source) {
		if p, ok := d.(*tree.Program); ok {
			m.programs = append(m.programs, p)
		}
	}
	return m
}

// fed gives all answers to a stream, and whether it has ended.
func (m *serverModel) fed(stream string) (answers string, closed bool) {
	record := ""
	for len(stream) >= 4 {
		w := modelNumber(stream)
		n := w % (1 << 31)
		if int64(len(record))+n > int64(m.most) {
			return answers, true
		}
		if int64(len(stream)) < 4+n {
			break
		}
		record += stream[4 : 4+n]
		stream = stream[4+n:]
		if w >= 1<<31 {
			if a := m.reply(record); a != "" {
				answers += modelWord(int64(1<<31+len(a))) + a
			}
			record = ""
		}
	}
	return answers, false
}

// modelNumber is the number of the first word of some bytes.
func modelNumber(b string) int64 {
	return int64(b[0])*(1<<24) + int64(b[1])*(1<<16) + int64(b[2])*(1<<8) + int64(b[3])
}

func modelWords(words ...int64) string {
	out := ""
	for _, w := range words {
		out += modelWord(w)
	}
	return out
}

func (m *serverModel) reply(r string) string {
	if len(r) < 12 || modelNumber(r[4:]) != 0 {
		return ""
	}
	xid := modelNumber(r)
	if modelNumber(r[8:]) != 2 {
		return modelWords(xid, 1, 1, 0, 2, 2)
	}
	if len(r) < 24 {
		return ""
	}
	rest, ok := behindAuth(r[24:])
	if !ok {
		return ""
	}
	rest, ok = behindAuth(rest)
	if !ok {
		return ""
	}
	call := api.Call{Prog: uint32(modelNumber(r[12:])), Vers: uint32(modelNumber(r[16:])), Proc: uint32(modelNumber(r[20:]))}
	return modelWords(xid, 1, 0, 0, 0) + m.called(call, rest)
}

// behindAuth gives what stands behind a credential or a verifier, if that is right.
func behindAuth(b string) (string, bool) {
	if len(b) < 8 || modelNumber(b[4:]) > 400 {
		return "", false
	}
	n := 8 + int(modelNumber(b[4:]))
	for ; n%4 != 0; n++ {
		if n >= len(b) || b[n] != 0 {
			return "", false
		}
	}
	if n > len(b) {
		return "", false
	}
	return b[n:], true
}

func (m *serverModel) called(call api.Call, rest string) string {
	for _, p := range m.programs {
		if p.Number == int64(call.Prog) {
			return m.calledIn(p, call, rest)
		}
	}
	return modelWords(1)
}

func (m *serverModel) calledIn(p *tree.Program, call api.Call, rest string) string {
	least, greatest := p.Versions[0].Number, p.Versions[0].Number
	for _, v := range p.Versions {
		if v.Number < least {
			least = v.Number
		}
		if v.Number > greatest {
			greatest = v.Number
		}
		if v.Number != int64(call.Vers) {
			continue
		}
		for _, proc := range v.Procs {
			if proc.Number == int64(call.Proc) {
				return m.asked(proc, call, rest)
			}
		}
		return modelWords(3)
	}
	return modelWords(2, least, greatest)
}

func (m *serverModel) asked(proc tree.Proc, call api.Call, rest string) string {
	arg, ok := m.argument(proc.Arg, rest)
	if !ok {
		return modelWords(4)
	}
	v, err := m.answered(call, arg)
	if err != nil {
		return modelWords(5)
	}
	result, ok := m.result(proc.Result, v)
	if !ok {
		return modelWords(5)
	}
	return modelWords(0) + result
}

func (m *serverModel) answered(call api.Call, arg []api.Node) (v []api.Node, err error) {
	defer func() {
		if recover() != nil {
			err = api.ErrNone
		}
	}()
	return m.answer(call, arg)
}

func (m *serverModel) argument(t tree.Type, rest string) (v []api.Node, ok bool) {
	switch t := t.(type) {
	case tree.Void:
		return nil, rest == ""
	case tree.Named:
		v, e, _ := modelDecode(m.types, t.Text, rest, m.lim)
		return v, e == api.OK
	}
	defer func() {
		if recover() != nil {
			v, ok = nil, false
		}
	}()
	b := &bytesModel{types: m.types, b: rest, lim: m.lim}
	b.value(t, 0)
	return b.v, b.at == len(rest) && len(rest) <= m.lim.Size
}

func (m *serverModel) result(t tree.Type, v []api.Node) (result string, ok bool) {
	switch t := t.(type) {
	case tree.Void:
		return "", len(v) == 0
	case tree.Named:
		b, e, _ := modelEncode(m.types, t.Text, v, m.lim)
		return b, e == api.OK
	}
	defer func() {
		if recover() != nil {
			result, ok = "", false
		}
	}()
	n := &model{types: m.types, v: v, lim: m.lim}
	n.value(t, 0)
	return n.out, n.at == len(v)
}

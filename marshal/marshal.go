// Package marshal: an interface compiler, and what marshals by it: see DOC.md.
package marshal

import (
	"strings"

	"marshal/api"
	"marshal/calls"
	"marshal/compile"
	"marshal/decode"
	"marshal/encode"
	"marshal/fault"
	"marshal/parse"
	"marshal/records"
	"marshal/tree"
)

// Spec is what a text says.
type Spec struct {
	defs []tree.Def
	unit compile.Unit
}

// Read reads a text (P3 to P6).
func Read(text string) (s *Spec, err error) {
	defer func() {
		if thrown := recover(); thrown != nil {
			s, err = nil, fault.Caught(thrown)
		}
	}()
	defs := parse.Text(text)
	return &Spec{defs: defs, unit: compile.Text(defs)}, nil
}

// Print writes it (P7).
func (s *Spec) Print() string { return tree.Print(s.defs) }

// Encode makes bytes of a value (P8).
func (s *Spec) Encode(name string, v []api.Node, lim api.Limits) (b string, err error) {
	defer func() {
		if thrown := recover(); thrown != nil {
			b, err = "", fault.Caught(thrown)
		}
	}()
	start, err := s.start(name, lim)
	if err != nil {
		return "", err
	}
	return encode.Value(s.unit.Code, start, v, lim), nil
}

// start gives where the code of a type starts, if there is one and the limits may be asked for.
func (s *Spec) start(name string, lim api.Limits) (int, error) {
	at, ok := s.unit.Types[name]
	if !ok {
		return 0, api.ErrNone
	}
	if !may(lim) {
		return 0, api.ErrLimits
	}
	return at, nil
}

// may tells whether limits may be asked for.
func may(lim api.Limits) bool {
	return upTo(lim.Depth, api.MaxDepth) && upTo(lim.Fuel, api.MaxFuel) && upTo(lim.Size, api.MaxSize)
}

// upTo tells whether a limit is one.
func upTo(n, most int) bool { return 0 <= n && n <= most }

// Decode makes a value of bytes (P9).
func (s *Spec) Decode(name string, b string, lim api.Limits) (v []api.Node, err error) {
	defer func() {
		if thrown := recover(); thrown != nil {
			v, err = nil, fault.Caught(thrown)
		}
	}()
	start, err := s.start(name, lim)
	if err != nil {
		return nil, err
	}
	return decode.Value(s.unit.Code, start, b, lim), nil
}

// Leaves goes through the opaques and strings in bytes (P10). The bytes are decoded here and not while it is gone through: they may not be kept (P2).
func (s *Spec) Leaves(name string, b string, lim api.Limits) func(yield func(n api.Node) bool) {
	v, _ := s.Decode(name, b, lim)
	kept := texts(v)
	return func(yield func(n api.Node) bool) {
		for _, n := range kept {
			if !yield(n) {
				return
			}
		}
	}
}

// texts gives those of a value, in a list of their own: the rest of the value need not be kept with them.
func texts(v []api.Node) []api.Node {
	var out []api.Node
	for _, n := range v {
		if n.Kind == api.KText {
			out = append(out, n)
		}
	}
	return out
}

// Server answers the calls of a stream.
type Server struct {
	stream *records.Stream
	desk   *calls.Desk
}

// Serve makes a server (P11).
func (s *Spec) Serve(lim api.Limits, most int, answer api.Answer) (*Server, error) {
	if !may(lim) || !upTo(most, api.MaxSize) {
		return nil, api.ErrLimits
	}
	desk := &calls.Desk{Unit: s.unit, Lim: lim, Answer: answer}
	return &Server{stream: records.New(most), desk: desk}, nil
}

// Feed takes the stream's next bytes, and answers (P12, P13).
func (x *Server) Feed(chunk string) string {
	var out strings.Builder
	x.stream.Take(chunk, func(record string) {
		if reply := x.desk.Reply(record); reply != "" {
			out.WriteString(records.Fragment(reply))
		}
	})
	return out.String()
}

// Closed: has the stream ended (P12)?
func (x *Server) Closed() bool { return x.stream.Closed() }

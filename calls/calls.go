// Package calls answers calls (P13).
package calls

import (
	"marshal/api"
	"marshal/compile"
	"marshal/cursor"
	"marshal/decode"
	"marshal/encode"
	"marshal/fault"
)

// What became of a call that is taken.
const (
	done uint32 = iota
	noProgram
	noVersion
	noProc
	noArg
	noResult
)

// The words by which calls and answers are told apart.
const (
	isCall   = 0
	isAnswer = 1
	taken    = 0 // of an answer: the call is taken
	refused  = 1 // or it is not
	otherRPC = 0 // since it is one of another version of calls
	rpc      = 2 // than the one that there is
	noAuth   = 0 // a verifier is this word, and one that says that it has no bytes
	noBytes  = 0
)

// ahead is how many bytes must be there of a call that is answered at all: its first three words.
const ahead = 12

// Desk is where the calls of a stream are answered.
type Desk struct {
	Unit   compile.Unit
	Lim    api.Limits
	Answer api.Answer // who knows the results
}

// Reply gives the record that answers a record; it is empty, if there is no answer.
func (d *Desk) Reply(record string) string {
	if len(record) < ahead {
		return ""
	}
	c := cursor.New(record)
	xid, kind, version := c.Word(), c.Word(), c.Word()
	if kind != isCall {
		return ""
	}
	if version != rpc {
		return encode.Words(xid, isAnswer, refused, otherRPC, rpc, rpc)
	}
	var call api.Call
	if !succeeds(func() { call = called(&c) }) {
		return ""
	}
	return encode.Words(xid, isAnswer, taken, noAuth, noBytes) + d.outcome(call, c.Rest())
}

// called takes what stands ahead of a call's argument.
func called(c *cursor.Cursor) api.Call {
	call := api.Call{Prog: c.Word(), Vers: c.Word(), Proc: c.Word()}
	skipAuth(c)
	skipAuth(c)
	return call
}

// skipAuth takes a credential or a verifier: nobody asks what it says.
func skipAuth(c *cursor.Cursor) {
	c.Word()
	at, n := c.At(), c.Word()
	if n > api.MaxAuth {
		panic(fault.New(api.ErrCount, at))
	}
	c.Padded(int(n))
}

// outcome gives what became of a call: the end of its answer.
func (d *Desk) outcome(call api.Call, rest string) string {
	program, ok := d.Unit.Programs[call.Prog]
	if !ok {
		return encode.Words(noProgram)
	}
	version, ok := program.Versions[call.Vers]
	if !ok {
		return encode.Words(noVersion, program.Least, program.Greatest)
	}
	proc, ok := version[call.Proc]
	if !ok {
		return encode.Words(noProc)
	}
	var arg []api.Node
	if !succeeds(func() { arg = decode.Value(d.Unit.Code, proc.Arg, rest, d.Lim) }) {
		return encode.Words(noArg)
	}
	var result string
	if !succeeds(func() { result = d.result(call, proc, arg) }) {
		return encode.Words(noResult)
	}
	return encode.Words(done) + result
}

// result asks for the answer to a call, and gives its bytes. An error is thrown on: it is told no otherwise than a panic.
func (d *Desk) result(call api.Call, proc compile.Proc, arg []api.Node) string {
	v, err := d.Answer(call, arg)
	if err != nil {
		panic(err)
	}
	return encode.Value(d.Unit.Code, proc.Result, v, d.Lim)
}

// succeeds does something, and tells whether it came to its end: not, if anything was thrown.
func succeeds(do func()) (ok bool) {
	defer func() {
		if recover() != nil {
			ok = false
		}
	}()
	do()
	return true
}

package marshal_test

import (
	"errors"
	"math"
	"slices"
	"strings"
	"sync"
	"testing"
	"unsafe"

	"marshal/api"
	"marshal/marshal"
	"marshal/plain"
	"marshal/tree"
)

// checkServerModel feeds a server with a stream, cut at random, and holds it against the model behind every chunk. It gives all answers.
func checkServerModel(t *testing.T, s *marshal.Spec, m *serverModel, stream string, throw func(n int) int) string {
	t.Helper()
	x, err := s.Serve(m.lim, m.most, m.answer)
	if err != nil {
		t.Fatalf("Serve(%v, %d): %v", m.lim, m.most, err)
	}
	got, widest := "", 1+throw(200)
	for at := 0; at < len(stream); {
		to := min(len(stream), at+throw(widest+1))
		got += x.Feed(stream[at:to])
		at = to
		want, closed := m.fed(stream[:at])
		if got != want || x.Closed() != closed {
			t.Fatalf("by %v and %d: fed with %q it gives %q, closed: %v, want %q, %v", m.lim, m.most, stream[:at], got, x.Closed(), want, closed)
		}
	}
	return got
}

// grown is an answer that grows a result out of the argument, always the same; some are wrong, some are errors, and some are panics.
func grown(programs []*tree.Program, types map[string]tree.Def) api.Answer {
	return func(c api.Call, arg []api.Node) ([]api.Node, error) {
		throw := dice()
		for i, n := range arg {
			for range (int(n.N)&7 + len(n.S) + n.At + i) % 16 {
				throw(2)
			}
		}
		g := &grower{types: types, throw: throw}
		g.side(procOf(programs, c).Result)
		v := g.v
		switch throw(8) {
		case 0:
			panic("no answer")
		case 1:
			return v, errors.New("no answer")
		case 2:
			if len(v) > 0 {
				v = spoil(throw, v)
			}
		}
		clear(arg)
		return v, nil
	}
}

// side grows an argument or a result.
func (g *grower) side(t tree.Type) {
	switch t.(type) {
	case tree.Void:
	default:
		g.value(t)
	}
}

func procOf(programs []*tree.Program, c api.Call) tree.Proc {
	for _, p := range programs {
		for _, v := range p.Versions {
			for _, proc := range v.Procs {
				if p.Number == int64(c.Prog) && v.Number == int64(c.Vers) && proc.Number == int64(c.Proc) {
					return proc
				}
			}
		}
	}
	return tree.Proc{Result: tree.Void{}}
}

// someCall gives a record that is a call, or nearly one.
func someCall(m *serverModel, throw func(n int) int) string {
	p := m.programs[throw(len(m.programs))]
	v := p.Versions[throw(len(p.Versions))]
	proc := v.Procs[throw(len(v.Procs))]
	g := &grower{types: m.types, throw: throw}
	g.side(proc.Arg)
	arg, _ := (&serverModel{types: m.types, lim: wide}).result(proc.Arg, g.v)
	if arg != "" && throw(5) == 0 {
		arg = spoilBytes(throw, arg)
	}
	words := []int64{int64(throw(1000)), 0, 2, p.Number, v.Number, proc.Number}
	if throw(3) == 0 {
		words[1+throw(5)] = []int64{0, 1, 2, 3, -1, 77, 1 << 31}[throw(7)]
	}
	r := words32(words...) + auth(int64(throw(9)), "credential"[:throw(11)]) + auth(int64(throw(9)), "verifier"[:throw(9)]) + arg
	switch throw(8) {
	case 0:
		return r[:throw(len(r))]
	case 1:
		return spoilBytes(throw, r)
	}
	return r
}

// inFragments cuts a record into fragments.
func inFragments(throw func(n int) int, r string) string {
	var out strings.Builder
	for throw(2) == 0 {
		n := throw(len(r) + 1)
		out.WriteString(fragment(r[:n]))
		r = r[n:]
	}
	out.WriteString(record(r))
	return out.String()
}

// someStream gives a few records, and at times a fragment that is too long.
func someStream(m *serverModel, throw func(n int) int) string {
	var out strings.Builder
	for range 1 + throw(6) {
		out.WriteString(inFragments(throw, someCall(m, throw)))
		if throw(20) == 0 {
			out.WriteString(words32([]int64{0, last, int64(m.most), int64(last + m.most), int64(m.most + 1), math.MaxInt32, -1}[throw(7)]))
		}
	}
	return out.String()
}

func TestP13AsTheModelSays(t *testing.T) {
	throw := dice()
	outcomes := map[string]int{}
	for _, source := range []string{office, kinds} {
		s, plainly := mustRead(t, source), modelServe(source, wide, 0, nil)
		answer := grown(plainly.programs, plainly.types)
		for range 3000 {
			lim := wide
			if throw(3) == 0 {
				lim = limits(throw(6), throw(60), throw(200))
			}
			most := []int{40, 60, 100, 1000, 100000}[throw(5)]
			m := modelServe(source, lim, most, answer)
			count(outcomes, checkServerModel(t, s, m, someStream(m, throw), throw))
		}
	}
	for _, o := range []string{words32(1, 0, 2, 2), words32(0, 0, 0, 0), words32(0, 0, 0, 1), words32(0, 0, 0, 2), words32(0, 0, 0, 3), words32(0, 0, 0, 4), words32(0, 0, 0, 5)} {
		if outcomes[o] < 200 {
			t.Errorf("the calls were too tame: %q came %d times", o, outcomes[o])
		}
	}
}

// count counts the answers in a stream by what they say.
func count(outcomes map[string]int, answers string) {
	for answers != "" {
		n := 4 + int(modelNumber(answers)%(1<<31))
		outcomes[answers[12:28]]++
		answers = answers[n:]
	}
}

func TestP1FeedAnswersEverything(t *testing.T) {
	throw := dice()
	s := mustRead(t, office)
	words := []int64{0, 1, 2, 3, 4, 5, 9, 77, 40, 41, last, last + 4, last + 12, last + 40, last + 44, -1, 1 << 30, 1 << 24}
	for range 20000 {
		var b strings.Builder
		for range throw(30) {
			b.WriteString(words32(words[throw(len(words))]))
		}
		for range throw(4) {
			b.WriteByte(byte(throw(256)))
		}
		m := modelServe(office, limits(throw(3), throw(5), throw(20)), throw(100), plain.Answers(throw(5)))
		checkServerModel(t, s, m, b.String(), throw)
	}
}

func FuzzFeed(f *testing.F) {
	f.Add(record(nop(1))+fragment(nop(2)[:7])+record(nop(2)[7:]), 40, 0, 64, 10000, 100000, 7)
	f.Add(record(head(1, 77, 5, 1)+words32(0, 3)+"abc\x00")+words32(61), 60, 1, 2, 3, 12, 5)
	f.Add(record(words32(9, 0, 3))+record(words32(9, 0, 2, 77, 2, 3)+auth(1, "abc")+auth(2, "")+words32(-3)), 100, 0, 1, 1, 4, 1)
	s, err := marshal.Read(office)
	if err != nil {
		f.Fatal(err)
	}
	f.Fuzz(func(t *testing.T, stream string, most, by, depth, fuel, size, widest int) {
		lim := limits(depth, fuel, size)
		_, err := s.Serve(lim, most, plain.Answers(by))
		within := func(n, most int) bool { return 0 <= n && n <= most }
		if ok := within(depth, 64) && within(fuel, 10000) && within(size, 100000) && within(most, 100000); ok != (err == nil) {
			t.Fatalf("Serve(%v, %d): %v", lim, most, err)
		}
		if err != nil {
			lim, most = wide, 100
		}
		throw := dice()
		for range widest & 63 {
			throw(2)
		}
		checkServerModel(t, s, modelServe(office, lim, most, plain.Answers(by)), stream, throw)
	})
}

// What is fed and what an answer gives may be changed afterwards, and what an answer is given is its own.
func TestP2ServersKeepNothing(t *testing.T) {
	letters := []byte("abc")
	given := value(list(2), num(0), text(unsafe.String(&letters[0], 3)))
	var kept [][]api.Node
	x := mustServe(t, office, wide, 99, func(c api.Call, arg []api.Node) ([]api.Node, error) {
		kept = append(kept, arg)
		return given, nil
	})
	ask := record(head(1, 77, 5, 1) + words32(-3, 3) + "xyz\x00")
	var outs []string
	for cut := range len(ask) + 1 {
		for _, part := range []string{ask[:cut], ask[cut:]} {
			chunk := []byte(part)
			outs = append(outs, x.Feed(unsafe.String(unsafe.SliceData(chunk), len(chunk))))
			if string(chunk) != part {
				t.Fatalf("the chunk %q has become %q", part, chunk)
			}
			for i := range chunk {
				chunk[i] = '?'
			}
		}
	}
	if !slices.Equal(given, value(list(2), num(0), text("abc"))) {
		t.Errorf("what the answer gave has become %v", given)
	}
	copy(letters, "???")
	clear(given)
	if got, want := strings.Join(outs, ""), strings.Repeat(record(taken(1, 0, 0, 3)+"abc\x00"), len(ask)+1); got != want {
		t.Errorf("the answers read %.200q", got)
	}
	for i, arg := range kept {
		if !slices.Equal(arg, value(list(2), num(-3), textAt("xyz", 8))) {
			t.Fatalf("argument %d reads %v", i, arg)
		}
		clear(arg)
	}
	if len(kept) != len(ask)+1 {
		t.Errorf("it was asked %d times", len(kept))
	}
}

func TestP2ServersOfOneSpecRunSideBySide(t *testing.T) {
	s := mustRead(t, kinds)
	before := s.Print()
	plainly := modelServe(kinds, wide, 0, nil)
	answer := grown(plainly.programs, plainly.types)
	var wait sync.WaitGroup
	for range 8 {
		wait.Go(func() {
			throw := dice()
			for range 100 {
				m := modelServe(kinds, wide, 1000, answer)
				stream := someStream(m, throw)
				want, closed := m.fed(stream)
				x, err := s.Serve(wide, 1000, answer)
				if err != nil {
					t.Error(err)
					return
				}
				if got := byBytes(x, stream); got != want || x.Closed() != closed {
					t.Errorf("fed with %q it gives %q, want %q", stream, got, want)
				}
			}
		})
	}
	wait.Wait()
	if s.Print() != before {
		t.Error("Feed has changed what Print writes")
	}
}

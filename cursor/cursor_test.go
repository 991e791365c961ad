package cursor

import (
	"testing"

	"marshal/api"
)

// thrown gives what is thrown meanwhile.
func thrown(do func()) (f api.Fault) {
	defer func() {
		if thrown, ok := recover().(*api.Fault); ok {
			f = *thrown
		}
	}()
	do()
	return api.Fault{}
}

func TestPartsAreTakenOneBehindTheOther(t *testing.T) {
	c := New("\x01\x02\x03\xff\xff\x00\x00\x00\x00\x00\x00\x80abcde\x00\x00\x00wxyz")
	if c.At() != 0 || c.Left() != 24 || c.Word() != 0x010203ff || c.At() != 4 || c.Wide() != 0xff00000000000080 || c.At() != 12 {
		t.Errorf("the words were wrong, or it stands at %d", c.At())
	}
	if got := c.Padded(5); got != "abcde" || c.At() != 20 || c.Left() != 4 {
		t.Errorf("the bytes are %q, and it stands at %d", got, c.At())
	}
	if got := c.Rest(); got != "wxyz" || c.At() != 20 {
		t.Errorf("the rest is %q, and it stands at %d", got, c.At())
	}
	if got := c.Padded(0); got != "" || c.At() != 20 {
		t.Errorf("no bytes are %q, and it stands at %d", got, c.At())
	}
	if got := c.Padded(4); got != "wxyz" || c.Left() != 0 || c.Rest() != "" {
		t.Errorf("the last bytes are %q, and %d are left", got, c.Left())
	}
}

func TestWhatIsNotWhollyThereIsNotTaken(t *testing.T) {
	for _, take := range []func(c *Cursor){
		func(c *Cursor) { c.Word() }, func(c *Cursor) { c.Wide() }, func(c *Cursor) { c.Padded(1) }, func(c *Cursor) { c.Padded(3) }, func(c *Cursor) { c.Padded(1<<32 - 1) },
	} {
		c := New("\x00\x00\x00\x00abc")
		c.Word()
		if f := thrown(func() { take(&c) }); f != (api.Fault{E: api.ErrShort, At: 4}) || c.At() != 4 {
			t.Errorf("thrown was %v, and it stands at %d", f, c.At())
		}
	}
}

func TestPaddingMustBeNought(t *testing.T) {
	for i, b := range []string{"a\x01\x02\x03", "a\x00\x02\x03", "a\x00\x00\x03"} {
		c := New("\x00\x00\x00\x00" + b)
		c.Word()
		if f := thrown(func() { c.Padded(1) }); f != (api.Fault{E: api.ErrPad, At: 5 + i}) {
			t.Errorf("%q: thrown was %v", b, f)
		}
	}
}

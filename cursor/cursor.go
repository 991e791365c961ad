// Package cursor goes through bytes, one part behind the other. What is wrong is thrown: see package fault.
package cursor

import (
	"strings"

	"marshal/api"
	"marshal/fault"
)

// Cursor is embedded in what makes something of the bytes.
type Cursor struct {
	bytes string
	at    int // the place of the next byte
}

// New gives one that stands ahead of all bytes.
func New(bytes string) Cursor { return Cursor{bytes: bytes} }

// At is the place of the next byte.
func (c *Cursor) At() int { return c.at }

// Left tells how many bytes there are from there on.
func (c *Cursor) Left() int { return len(c.bytes) - c.at }

// Rest gives these bytes.
func (c *Cursor) Rest() string { return c.bytes[c.at:] }

// Word takes a word of 32 bits.
func (c *Cursor) Word() uint32 { return uint32(big(c.take(4))) }

// Wide takes a word of 64 bits, which is there as a whole or not at all.
func (c *Cursor) Wide() uint64 { return big(c.take(8)) }

// Padded takes so many bytes and their padding, and gives a copy of the bytes, which may be kept.
func (c *Cursor) Padded(n int) string {
	at := c.at
	whole := c.take((n + 3) / 4 * 4)
	for i := n; i < len(whole); i++ {
		if whole[i] != 0 {
			panic(fault.New(api.ErrPad, at+i))
		}
	}
	return strings.Clone(whole[:n])
}

// take takes so many bytes, which must all be there.
func (c *Cursor) take(n int) string {
	if n > c.Left() {
		panic(fault.New(api.ErrShort, c.at))
	}
	taken := c.bytes[c.at : c.at+n]
	c.at += n
	return taken
}

// big gives the number of bytes of which the first is the highest.
func big(bytes string) uint64 {
	var n uint64
	for i := range len(bytes) {
		n = n<<8 | uint64(bytes[i])
	}
	return n
}

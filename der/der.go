// Package der is strict bytes: see DOC.md, chapter 1.
package der

import (
	"math/bits"
	"strings"
)

const (
	tagInt    = 0x02
	tagOctets = 0x04
	tagText   = 0x1b

	// A length below longMark stands for itself; the marks tell how many bytes it has.
	longMark = 0x80
	oneByte  = 0x81
	twoBytes = 0x82

	maxInt  = 1 << 62
	maxBody = 65535
)

// Int is a number's element.
func Int(n int) []byte {
	return Wrap(tagInt, digits(min(max(n, 0), maxInt)))
}

// Octets is bytes' element.
func Octets(p []byte) []byte {
	return Wrap(tagOctets, p)
}

// Text is a text's element.
func Text(s string) []byte {
	return Wrap(tagText, []byte(s))
}

// Wrap is elements within one. Of more than the longest body it answers
// nothing: its length has no form, and one that is cut short would be taken as
// something else.
func Wrap(tag byte, l ...[]byte) []byte {
	n := 0
	for _, p := range l {
		n += len(p)
		if n > maxBody {
			return nil
		}
	}
	b := head(tag, n)
	for _, p := range l {
		b = append(b, p...)
	}
	return b
}

// head is a tag and a length, with room for the n bytes behind them.
func head(tag byte, n int) []byte {
	b := append(make([]byte, 0, n+4), tag)
	switch {
	case n < longMark:
		return append(b, byte(n))
	case n <= 255:
		return append(b, oneByte, byte(n))
	}
	return append(b, twoBytes, byte(n>>8), byte(n))
}

// digits is the bytes of n, which is not below 0. One bit more than n has keeps
// the first byte below 80.
func digits(n int) []byte {
	p := make([]byte, bits.Len(uint(n))/8+1)
	for i := len(p) - 1; i >= 0; i-- {
		p[i] = byte(n)
		n >>= 8
	}
	return p
}

// Cursor takes elements. What is left is a string, since that can be shared
// between Cursors and never changes.
type Cursor struct {
	left  string
	erred bool
}

// Open is one at the beginning of bytes.
func Open(b []byte) *Cursor {
	return &Cursor{left: string(b)}
}

// Int takes a number.
func (c *Cursor) Int() int {
	body, ok := c.take(tagInt)
	if !ok {
		return 0
	}
	n, ok := number(body)
	if !ok {
		c.fail()
	}
	return n
}

// Octets takes bytes.
func (c *Cursor) Octets() []byte {
	body, _ := c.take(tagOctets)
	return []byte(body)
}

// Text takes a text.
func (c *Cursor) Text() string {
	body, _ := c.take(tagText)
	return strings.Clone(body)
}

// Into takes what has elements.
func (c *Cursor) Into(tag byte) *Cursor {
	if c == nil {
		return nil
	}
	body, ok := c.take(tag)
	return &Cursor{left: body, erred: !ok}
}

// Left is how many bytes are left.
func (c *Cursor) Left() int {
	if c == nil {
		return 0
	}
	return len(c.left)
}

// Good tells whether it did not err.
func (c *Cursor) Good() bool {
	return c != nil && !c.erred
}

// Whole tells whether nothing is left.
func (c *Cursor) Whole() bool {
	return c.Good() && c.left == ""
}

// take is what the next element has, if it is one of that tag.
func (c *Cursor) take(tag byte) (string, bool) {
	if !c.Good() {
		return "", false
	}
	body, rest, ok := split(c.left, tag)
	if !ok {
		c.fail()
		return "", false
	}
	c.left = rest
	return body, true
}

func (c *Cursor) fail() {
	c.left, c.erred = "", true
}

// split parts s behind its first element, if that is whole and of that tag.
func split(s string, tag byte) (body, rest string, ok bool) {
	if s == "" || s[0] != tag {
		return "", "", false
	}
	s = s[1:]
	n, width, ok := length(s)
	if !ok || len(s)-width < n {
		return "", "", false
	}
	return s[width : width+n], s[width+n:], true
}

// length is the length that s begins with, and how many bytes that has, if it
// is written in the shortest way.
func length(s string) (n, width int, ok bool) {
	switch {
	case s == "":
		return 0, 0, false
	case s[0] < longMark:
		return int(s[0]), 1, true
	case s[0] == oneByte && len(s) >= 2:
		n, width = int(s[1]), 2
		return n, width, n >= longMark
	case s[0] == twoBytes && len(s) >= 3:
		n, width = int(s[1])<<8|int(s[2]), 3
		return n, width, n > 255
	}
	return 0, 0, false
}

// number is the number of an Int's bytes, if they are its one form.
func number(s string) (int, bool) {
	if s == "" || len(s) > 8 || s[0] >= 0x80 {
		return 0, false
	}
	if len(s) > 1 && s[0] == 0 && s[1] < 0x80 {
		return 0, false
	}
	n := 0
	for i := range len(s) {
		n = n<<8 | int(s[i])
	}
	if n > maxInt {
		return 0, false
	}
	return n, true
}

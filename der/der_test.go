package der_test

import (
	"bytes"
	"math"
	"math/big"
	"math/rand"
	"slices"
	"strconv"
	"strings"
	"testing"

	"legate/der"
)

const greatest = 1 << 62

// taker is one of the calls that take an element; its answer is a row of bytes,
// empty where the call answers nothing.
type taker struct {
	name string
	tag  byte
	take func(c *der.Cursor) []byte
}

func takers() []taker {
	return []taker{
		{"Int", 0x02, func(c *der.Cursor) []byte {
			if n := c.Int(); n != 0 {
				return strconv.AppendInt(nil, int64(n), 10)
			}
			return nil
		}},
		{"Octets", 0x04, func(c *der.Cursor) []byte { return c.Octets() }},
		{"Text", 0x1b, func(c *der.Cursor) []byte { return []byte(c.Text()) }},
		{"Into", 0x30, func(c *der.Cursor) []byte {
			d := c.Into(0x30)
			if d.Good() != c.Good() || d.Left() == 0 && d.Whole() != d.Good() {
				return []byte("a Cursor that is Good where the other one erred, or the contrary")
			}
			return make([]byte, d.Left())
		}},
	}
}

// wantErred tells whether c is as behind an error, whatever is called.
func wantErred(t *testing.T, what string, c *der.Cursor) {
	t.Helper()
	for range 2 {
		if c.Good() || c.Whole() || c.Left() != 0 {
			t.Errorf("%s: Good %v, Whole %v, Left %d behind an error", what, c.Good(), c.Whole(), c.Left())
		}
		if n, p, s := c.Int(), c.Octets(), c.Text(); n != 0 || len(p) != 0 || s != "" {
			t.Errorf("%s: %d, %x, %q behind an error", what, n, p, s)
		}
		d := c.Into(0x30)
		if d.Good() || d.Whole() || d.Left() != 0 || d.Int() != 0 || len(d.Octets()) != 0 || d.Text() != "" || d.Into(0x30).Good() {
			t.Errorf("%s: Into did not err behind an error", what)
		}
	}
}

// zeros is a row of n bytes behind some first ones.
func zeros(n int, head ...byte) []byte {
	return append(head, make([]byte, n)...)
}

func TestIntLaysFewestBytes(t *testing.T) {
	for _, x := range []struct {
		n    int
		want []byte
	}{
		{0, []byte{2, 1, 0}},
		{1, []byte{2, 1, 1}},
		{127, []byte{2, 1, 0x7f}},
		{128, []byte{2, 2, 0, 0x80}},
		{255, []byte{2, 2, 0, 0xff}},
		{256, []byte{2, 2, 1, 0}},
		{32767, []byte{2, 2, 0x7f, 0xff}},
		{32768, []byte{2, 3, 0, 0x80, 0}},
		{65535, []byte{2, 3, 0, 0xff, 0xff}},
		{65536, []byte{2, 3, 1, 0, 0}},
		{0x123456, []byte{2, 3, 0x12, 0x34, 0x56}},
		{1<<55 - 1, []byte{2, 7, 0x7f, 0xff, 0xff, 0xff, 0xff, 0xff, 0xff}},
		{1 << 55, []byte{2, 8, 0, 0x80, 0, 0, 0, 0, 0, 0}},
		{greatest - 1, []byte{2, 8, 0x3f, 0xff, 0xff, 0xff, 0xff, 0xff, 0xff, 0xff}},
		{greatest, []byte{2, 8, 0x40, 0, 0, 0, 0, 0, 0, 0}},
	} {
		if b := der.Int(x.n); !bytes.Equal(b, x.want) {
			t.Errorf("Int(%d) is %x, not %x", x.n, b, x.want)
		}
	}
}

func TestIntBeyondItsBounds(t *testing.T) {
	for _, n := range []int{-1, -5, -128, -129, -256, -1 << 31, -greatest, math.MinInt + 1, math.MinInt} {
		if b := der.Int(n); !bytes.Equal(b, []byte{2, 1, 0}) {
			t.Errorf("Int(%d) is %x, not that of 0", n, b)
		}
	}
	for _, n := range []int{greatest + 1, greatest + 255, greatest * 3 / 2, math.MaxInt - 1, math.MaxInt} {
		if b := der.Int(n); !bytes.Equal(b, []byte{2, 8, 0x40, 0, 0, 0, 0, 0, 0, 0}) {
			t.Errorf("Int(%d) is %x, not that of 2^62", n, b)
		}
	}
}

func TestOctetsAndTextLayTagLengthBytes(t *testing.T) {
	for _, s := range []string{"", "a", "ab", "\x00", "\xff\xfe", "\x02\x01\x05", "A.EDU", "a\x00b"} {
		head := []byte{4, byte(len(s))}
		if b := der.Octets([]byte(s)); !bytes.Equal(b, append(head, s...)) {
			t.Errorf("Octets(%q) is %x", s, b)
		}
		head = []byte{0x1b, byte(len(s))}
		if b := der.Text(s); !bytes.Equal(b, append(head, s...)) {
			t.Errorf("Text(%q) is %x", s, b)
		}
	}
	if b := der.Octets(nil); !bytes.Equal(b, []byte{4, 0}) {
		t.Errorf("Octets of nothing is %x", b)
	}
}

func TestWrapLaysRowsInOrder(t *testing.T) {
	for i, x := range []struct {
		tag  byte
		l    [][]byte
		want []byte
	}{
		{0x30, nil, []byte{0x30, 0}},
		{0x30, [][]byte{nil, {}, nil}, []byte{0x30, 0}},
		{0x61, [][]byte{der.Int(5), nil, der.Text("x")}, []byte{0x61, 6, 2, 1, 5, 0x1b, 1, 'x'}},
		{0x00, [][]byte{{1}, {2, 3}, {}, {4}}, []byte{0, 4, 1, 2, 3, 4}},
		{0xff, [][]byte{{9}, {9}}, []byte{0xff, 2, 9, 9}},
		{0x63, [][]byte{der.Wrap(0x30, der.Int(1)), der.Wrap(0x31)}, []byte{0x63, 7, 0x30, 3, 2, 1, 1, 0x31, 0}},
	} {
		if b := der.Wrap(x.tag, x.l...); !bytes.Equal(b, x.want) {
			t.Errorf("%d: Wrap is %x, not %x", i, b, x.want)
		}
	}
	for tag := range 256 {
		if b := der.Wrap(byte(tag), []byte{7}); !bytes.Equal(b, []byte{byte(tag), 1, 7}) {
			t.Errorf("tag %x: %x", tag, b)
		}
	}
}

// lengths is bodies' lengths and what stands for them.
func lengths() map[int][]byte {
	return map[int][]byte{
		0: {0}, 1: {1}, 126: {126}, 127: {127},
		128: {0x81, 128}, 129: {0x81, 129}, 254: {0x81, 254}, 255: {0x81, 255},
		256: {0x82, 1, 0}, 257: {0x82, 1, 1}, 511: {0x82, 1, 255}, 512: {0x82, 2, 0}, 32768: {0x82, 0x80, 0},
		65534: {0x82, 255, 254}, 65535: {0x82, 255, 255},
	}
}

func TestLengthsAreWrittenInTheShortestWay(t *testing.T) {
	for n, form := range lengths() {
		body := bytes.Repeat([]byte{'q'}, n)
		for _, x := range []struct {
			name string
			tag  byte
			b    []byte
		}{
			{"Octets", 4, der.Octets(body)},
			{"Text", 0x1b, der.Text(string(body))},
			{"Wrap of one row", 0x30, der.Wrap(0x30, body)},
			{"Wrap of two rows", 0x31, der.Wrap(0x31, body[:n/3], body[n/3:])},
		} {
			want := slices.Concat([]byte{x.tag}, form, body)
			if !bytes.Equal(x.b, want) {
				t.Errorf("%s of %d bytes begins with %x", x.name, n, x.b[:min(len(x.b), 5)])
			}
		}
	}
}

func TestLongElementsAreTaken(t *testing.T) {
	for n := range lengths() {
		body := bytes.Repeat([]byte{'q'}, n)
		b := slices.Concat(der.Octets(body), der.Text(string(body)), der.Wrap(0x30, body), der.Int(9))
		c := der.Open(b)
		if p := c.Octets(); !bytes.Equal(p, body) {
			t.Errorf("Octets of %d bytes are %d", n, len(p))
		}
		if s := c.Text(); s != string(body) {
			t.Errorf("Text of %d bytes is %d", n, len(s))
		}
		if d := c.Into(0x30); d.Left() != n || !d.Good() {
			t.Errorf("Into of %d bytes has %d", n, d.Left())
		}
		if k := c.Int(); k != 9 || !c.Whole() {
			t.Errorf("behind %d bytes: %d", n, k)
		}
	}
}

func TestTooLongBodiesEndWithoutPanic(t *testing.T) {
	big := make([]byte, 70000)
	for _, n := range []int{65536, 65537, 70000} {
		der.Octets(big[:n])
		der.Text(string(big[:n]))
		der.Wrap(0x30, big[:n])
		der.Wrap(0x30, big[:n/2], big[n/2:n])
	}
}

func TestCursorTakesOneBehindTheOther(t *testing.T) {
	b := slices.Concat(der.Int(300), der.Text("hi"), der.Wrap(0x30, der.Int(7), der.Octets([]byte("q"))), der.Octets([]byte("end")))
	c := der.Open(b)
	left := func(want int) {
		t.Helper()
		if c.Left() != want || !c.Good() || c.Whole() != (want == 0) {
			t.Errorf("Left %d, not %d; Good %v, Whole %v", c.Left(), want, c.Good(), c.Whole())
		}
	}
	left(21)
	if n := c.Int(); n != 300 {
		t.Error(n)
	}
	left(17)
	if s := c.Text(); s != "hi" {
		t.Error(s)
	}
	left(13)
	d := c.Into(0x30)
	left(5)
	if d.Left() != 6 || !d.Good() || d.Whole() {
		t.Error("within", d.Left())
	}
	if n := d.Int(); n != 7 || d.Left() != 3 || d.Whole() || !d.Good() {
		t.Error("within", n, d.Left())
	}
	if p := c.Octets(); string(p) != "end" {
		t.Error(p)
	}
	left(0)
	if p := d.Octets(); string(p) != "q" || d.Left() != 0 || !d.Whole() || !d.Good() {
		t.Error("within, after the outer one", p)
	}
}

func TestNothingLeftErrs(t *testing.T) {
	for _, b := range [][]byte{nil, {}} {
		c := der.Open(b)
		if !c.Good() || !c.Whole() || c.Left() != 0 {
			t.Error("a Cursor of no bytes is Good and Whole")
		}
		for _, k := range takers() {
			c := der.Open(b)
			if p := k.take(c); len(p) != 0 {
				t.Errorf("%s of nothing: %q", k.name, p)
			}
			wantErred(t, k.name+" of nothing", c)
		}
	}
	for _, k := range takers() {
		c := der.Open(der.Int(5))
		if n := c.Int(); n != 5 || !c.Whole() {
			t.Error(n)
		}
		k.take(c)
		wantErred(t, k.name+" behind the last element", c)
	}
}

func TestCutElementsErr(t *testing.T) {
	for _, k := range takers() {
		for _, n := range []int{1, 2, 3, 126, 127, 128, 129, 255, 256, 257, 65535} {
			whole := der.Wrap(k.tag, zeros(n-1, 1))
			for _, cut := range []int{1, 2, 3, 4, 5, len(whole) / 2, len(whole) - 2, len(whole) - 1} {
				if cut < 1 || cut >= len(whole) {
					continue
				}
				c := der.Open(whole[:cut])
				if p := k.take(c); len(p) != 0 {
					t.Errorf("%s of %d bytes, cut to %d: %q", k.name, n, cut, p)
				}
				wantErred(t, k.name+" that is cut", c)
			}
		}
	}
}

func TestAnElementEndsWithTheCursor(t *testing.T) {
	// What stands behind the outer element would make the inner one whole.
	b := slices.Concat(der.Wrap(0x30, []byte{4, 5, 'a', 'b'}), []byte("cdefgh"))
	c := der.Open(b)
	d := c.Into(0x30)
	if p := d.Octets(); len(p) != 0 {
		t.Errorf("%q", p)
	}
	wantErred(t, "an inner element that is cut", d)
	if !c.Good() || c.Left() != 6 {
		t.Error("the outer Cursor erred with the inner one")
	}
}

func TestLongerWaysOfALengthErr(t *testing.T) {
	for _, k := range takers() {
		for _, x := range []struct {
			form []byte
			n    int
		}{
			{[]byte{0x81, 0}, 0}, {[]byte{0x81, 1}, 1}, {[]byte{0x81, 2}, 2}, {[]byte{0x81, 126}, 126}, {[]byte{0x81, 127}, 127},
			{[]byte{0x82, 0, 0}, 0}, {[]byte{0x82, 0, 1}, 1}, {[]byte{0x82, 0, 127}, 127}, {[]byte{0x82, 0, 128}, 128}, {[]byte{0x82, 0, 255}, 255},
			{[]byte{0x83, 0, 0, 1}, 1}, {[]byte{0x83, 0, 1, 0}, 256}, {[]byte{0x83, 0, 255, 255}, 65535}, {[]byte{0x83, 1, 0, 0}, 65536},
			{[]byte{0x84, 0, 0, 0, 1}, 1}, {[]byte{0x84, 0, 0, 1, 0}, 256}, {[]byte{0x88, 0, 0, 0, 0, 0, 0, 0, 1}, 1},
			{[]byte{0x80}, 0}, {[]byte{0x80}, 1}, {[]byte{0x80}, 128}, {[]byte{0xff}, 255}, {[]byte{0x85}, 5},
		} {
			body := bytes.Repeat([]byte{1}, x.n)
			for _, behind := range [][]byte{nil, {0, 0}, der.Int(5), zeros(300, 5)} {
				c := der.Open(slices.Concat([]byte{k.tag}, x.form, body, behind))
				if p := k.take(c); len(p) != 0 {
					t.Errorf("%s of length %x: %q", k.name, x.form, p)
				}
				wantErred(t, k.name+" of a length in a longer way", c)
			}
		}
	}
}

func TestAnotherTagErrs(t *testing.T) {
	for _, k := range takers() {
		for tag := range 256 {
			c := der.Open(slices.Concat(der.Wrap(byte(tag), []byte{1}), der.Int(3)))
			p := k.take(c)
			if byte(tag) == k.tag {
				if len(p) == 0 || !c.Good() || c.Left() != 3 {
					t.Errorf("%s of its own tag: %q, Left %d", k.name, p, c.Left())
				}
				continue
			}
			if len(p) != 0 {
				t.Errorf("%s of tag %x: %q", k.name, tag, p)
			}
			wantErred(t, k.name+" of another tag", c)
		}
	}
}

func TestIntoTakesTheTagThatIsAsked(t *testing.T) {
	for tag := range 256 {
		for asked := range 256 {
			c := der.Open(der.Wrap(byte(tag), der.Int(5)))
			d := c.Into(byte(asked))
			if same := tag == asked; d.Good() != same || c.Good() != same || same && (d.Int() != 5 || !d.Whole() || !c.Whole()) {
				t.Fatalf("tag %x, asked of %x", tag, asked)
			}
		}
	}
}

// numberOf is what an Int of these bytes has, read by the words of P1.2.
func numberOf(p []byte) (int, bool) {
	if len(p) == 0 || p[0] >= 0x80 {
		return 0, false
	}
	if p[0] == 0 && len(p) > 1 && p[1] < 0x80 {
		return 0, false
	}
	n := new(big.Int).SetBytes(p)
	if n.Cmp(big.NewInt(greatest)) > 0 {
		return 0, false
	}
	return int(n.Int64()), true
}

// rows calls f with all rows of n of these bytes.
func rows(n int, of []byte, f func(p []byte)) {
	p := make([]byte, n)
	var fill func(i int)
	fill = func(i int) {
		if i == n {
			f(p)
			return
		}
		for _, x := range of {
			p[i] = x
			fill(i + 1)
		}
	}
	fill(0)
}

func checkInt(t *testing.T, p []byte) {
	t.Helper()
	want, ok := numberOf(p)
	c := der.Open(slices.Concat([]byte{2, byte(len(p))}, p, []byte{4, 0}))
	if n := c.Int(); n != want || c.Good() != ok || ok != (c.Left() == 2) {
		t.Fatalf("Int of %x: %d, Good %v, Left %d; not %d, %v", p, n, c.Good(), c.Left(), want, ok)
	}
	if ok && !bytes.Equal(der.Int(want), slices.Concat([]byte{2, byte(len(p))}, p)) {
		t.Fatalf("%d has another form than %x", want, p)
	}
	if !ok {
		wantErred(t, "a wrong Int", c)
	}
}

func TestIntsOfAnyBytes(t *testing.T) {
	all := make([]byte, 256)
	for i := range all {
		all[i] = byte(i)
	}
	for n := range 3 {
		rows(n, all, func(p []byte) { checkInt(t, p) })
	}
	for n := 3; n <= 5; n++ {
		rows(n, []byte{0, 1, 0x7f, 0x80, 0xff}, func(p []byte) { checkInt(t, p) })
	}
	for n := 6; n <= 9; n++ {
		rows(n, []byte{0, 0x40, 0x80}, func(p []byte) { checkInt(t, p) })
	}
	for n := 10; n < 128; n++ {
		for _, first := range []byte{0, 1, 0x7f, 0x80, 0xff} {
			for _, second := range []byte{0, 1, 0x7f, 0x80, 0xff} {
				checkInt(t, zeros(n-2, first, second))
			}
		}
	}
}

func TestEachWayInWhichAnIntErrs(t *testing.T) {
	for name, b := range map[string][]byte{
		"empty":                 {2, 0},
		"80":                    {2, 1, 0x80},
		"ff":                    {2, 1, 0xff},
		"80 ahead":              {2, 2, 0x80, 0},
		"00 and 00":             {2, 2, 0, 0},
		"00 and 7f":             {2, 2, 0, 0x7f},
		"00 and 01":             {2, 3, 0, 1, 0},
		"2^62 and 1":            {2, 8, 0x40, 0, 0, 0, 0, 0, 0, 1},
		"2^63 less 1":           {2, 8, 0x7f, 0xff, 0xff, 0xff, 0xff, 0xff, 0xff, 0xff},
		"2^63":                  {2, 9, 0, 0x80, 0, 0, 0, 0, 0, 0, 0},
		"2^64 and 5":            {2, 9, 1, 0, 0, 0, 0, 0, 0, 0, 5},
		"2^64 and 5, and 00":    {2, 10, 0, 0x80, 0, 0, 0, 0, 0, 0, 0, 5},
		"of 200 bytes":          zeros(198, 2, 0x81, 200, 1, 0),
		"of 200 bytes, with 00": zeros(198, 2, 0x81, 200, 0, 0x80),
	} {
		c := der.Open(append(b, 2, 1, 5))
		if n := c.Int(); n != 0 {
			t.Errorf("%s: %d", name, n)
		}
		wantErred(t, name, c)
	}
	for want, b := range map[int][]byte{
		0:            {2, 1, 0},
		127:          {2, 1, 0x7f},
		128:          {2, 2, 0, 0x80},
		greatest - 1: {2, 8, 0x3f, 0xff, 0xff, 0xff, 0xff, 0xff, 0xff, 0xff},
		greatest:     {2, 8, 0x40, 0, 0, 0, 0, 0, 0, 0},
	} {
		c := der.Open(b)
		if n := c.Int(); n != want || !c.Whole() {
			t.Errorf("%x: %d, Whole %v", b, n, c.Whole())
		}
	}
}

func TestErrorsOfIntoStayWhereTheyAre(t *testing.T) {
	good := slices.Concat(der.Wrap(0x30, []byte{4}), der.Int(8), der.Wrap(0x30, der.Int(6)), der.Wrap(0x30, der.Int(7)))
	c := der.Open(good)
	d := c.Into(0x30)
	d.Octets()
	wantErred(t, "within", d)
	if n := c.Int(); n != 8 || !c.Good() {
		t.Error("an error within reached the outer Cursor", n)
	}
	e, f := c.Into(0x30), c.Into(0x30)
	if c.Int() != 0 {
		t.Error("a number of nothing")
	}
	wantErred(t, "outside", c)
	if n := f.Int(); n != 7 || !f.Whole() {
		t.Error("an error outside reached what was made ahead of it", n)
	}
	e.Text()
	wantErred(t, "one of two", e)
}

func TestIntoOfWhatErrs(t *testing.T) {
	for name, b := range map[string][]byte{
		"nothing":            nil,
		"another tag":        der.Wrap(0x31, der.Int(5)),
		"cut":                {0x30, 4, 2, 1, 5},
		"a longer length":    {0x30, 0x81, 3, 2, 1, 5},
		"two bytes' length":  {0x30, 0x82, 0, 3, 2, 1, 5},
		"no length":          {0x30},
		"a length of no end": {0x30, 0x80, 2, 1, 5, 0, 0},
	} {
		c := der.Open(b)
		d := c.Into(0x30)
		wantErred(t, name+": outer", c)
		wantErred(t, name+": inner", d)
		e := d.Into(0x30)
		wantErred(t, name+": the inner one's", e)
		wantErred(t, name+": later", c.Into(0x02))
	}
}

func TestManyLevels(t *testing.T) {
	const levels = 8000
	b := der.Text("core")
	for range levels {
		b = der.Wrap(0x30, b)
	}
	c := der.Open(b)
	for i := range levels {
		d := c.Into(0x30)
		if !c.Whole() || !d.Good() {
			t.Fatal("level", i)
		}
		c = d
	}
	if s := c.Text(); s != "core" || !c.Whole() {
		t.Error(s)
	}
}

func TestWhatWasLaidIsTaken(t *testing.T) {
	seen := map[string]int{}
	check := func(n int) {
		b := der.Int(n)
		if m, ok := seen[string(b)]; ok && m != n {
			t.Fatalf("%d and %d have one form", n, m)
		}
		seen[string(b)] = n
		c := der.Open(b)
		if m := c.Int(); m != n || !c.Whole() {
			t.Fatalf("%d was taken as %d", n, m)
		}
	}
	for n := range 70000 {
		check(n)
	}
	for i := range 62 {
		for _, d := range []int{-2, -1, 0, 1, 2} {
			check(max(0, 1<<i+d))
		}
	}
	check(greatest - 1)
	check(greatest)
	for _, s := range []string{"", "A.EDU", "\x00\xff\x80", "\xe2\x82\xac", strings.Repeat("long", 300)} {
		c := der.Open(slices.Concat(der.Text(s), der.Octets([]byte(s))))
		if x, p := c.Text(), c.Octets(); x != s || string(p) != s || !c.Whole() {
			t.Errorf("%q was taken as %q, %q", s, x, p)
		}
	}
}

// piece is a random tree of elements.
type piece struct {
	tag   byte
	n     int
	s     string
	inner []piece
}

func randomPiece(r *rand.Rand, depth int) piece {
	switch k := r.Intn(4); {
	case k == 0:
		return piece{tag: 2, n: r.Intn(greatest) >> r.Intn(62)}
	case k == 1:
		return piece{tag: 4, s: randomText(r)}
	case k == 2 || depth == 0:
		return piece{tag: 0x1b, s: randomText(r)}
	}
	p := piece{tag: byte(0x60 + r.Intn(16))}
	for range r.Intn(5) {
		p.inner = append(p.inner, randomPiece(r, depth-1))
	}
	return p
}

func randomText(r *rand.Rand) string {
	b := make([]byte, r.Intn(300)>>r.Intn(8))
	r.Read(b)
	return string(b)
}

func (p piece) lay() []byte {
	switch p.tag {
	case 2:
		return der.Int(p.n)
	case 4:
		return der.Octets([]byte(p.s))
	case 0x1b:
		return der.Text(p.s)
	}
	var l [][]byte
	for _, q := range p.inner {
		l = append(l, q.lay())
	}
	return der.Wrap(p.tag, l...)
}

func (p piece) isTaken(c *der.Cursor) bool {
	switch p.tag {
	case 2:
		return c.Int() == p.n && c.Good()
	case 4:
		return string(c.Octets()) == p.s && c.Good()
	case 0x1b:
		return c.Text() == p.s && c.Good()
	}
	d := c.Into(p.tag)
	for _, q := range p.inner {
		if !q.isTaken(d) {
			return false
		}
	}
	return d.Whole() && c.Good()
}

func TestTreesAreTakenAsTheyWereLaid(t *testing.T) {
	r := rand.New(rand.NewSource(1))
	for range 2000 {
		p := randomPiece(r, 4)
		b := p.lay()
		if c := der.Open(b); !p.isTaken(c) || !c.Whole() {
			t.Fatalf("%x is not taken as it was laid", b)
		}
		if c := der.Open(b[:r.Intn(len(b))]); p.isTaken(c) || c.Good() {
			t.Fatalf("%x is taken though it is cut", b)
		}
	}
}

// roomy is p with other bytes in the spare room behind it.
func roomy(p string) []byte {
	b := append([]byte(p), "untouched"...)
	return b[:len(p)]
}

func TestWhatIsHandedInIsNotChanged(t *testing.T) {
	p, q := roomy("abc"), roomy("de")
	der.Octets(p)
	der.Wrap(0x30, p, q)
	l := [][]byte{p, q, nil}
	der.Wrap(0x30, l[:2]...)
	if l[2] != nil || string(l[0]) != "abc" || string(l[1]) != "de" {
		t.Error("the list of rows was changed")
	}
	b := roomy(string(slices.Concat(der.Int(5), der.Octets([]byte("xy")), der.Text("z"), der.Wrap(0x30, der.Int(1)))))
	before := string(b)
	c := der.Open(b)
	c.Int()
	got := c.Octets()
	_ = append(got, "more"...)
	got[0] = '!'
	c.Text()
	c.Into(0x30).Int()
	c.Int()
	if string(b) != before {
		t.Error("what was opened was changed")
	}
	for _, x := range [][]byte{p, q, b} {
		if string(x[len(x):len(x)+9]) != "untouched" {
			t.Error("the spare room was changed")
		}
	}
}

func TestWhatIsHandedInIsNotKept(t *testing.T) {
	b := slices.Concat(der.Octets([]byte("one")), der.Text("two"), der.Wrap(0x30, der.Octets([]byte("three"))), der.Int(77))
	c := der.Open(b)
	d := der.Open(b)
	d.Octets()
	d.Text()
	d = d.Into(0x30)
	clear(b)
	if s := string(c.Octets()); s != "one" {
		t.Errorf("%q", s)
	}
	if s := c.Text(); s != "two" {
		t.Errorf("%q", s)
	}
	if s := string(c.Into(0x30).Octets()); s != "three" {
		t.Errorf("%q", s)
	}
	if n := c.Int(); n != 77 || !c.Whole() {
		t.Error(n)
	}
	if s := string(d.Octets()); s != "three" {
		t.Errorf("within: %q", s)
	}
	p := []byte("row")
	for i, laid := range [][]byte{der.Octets(p), der.Wrap(0x30, p), der.Wrap(0x30, nil, p, nil)} {
		p[0] = '!'
		if string(laid[2:]) != "row" {
			t.Errorf("%d: what was laid changed with what was handed in", i)
		}
		p[0] = 'r'
	}
}

func TestWhatIsAnsweredIsNewMemory(t *testing.T) {
	b := slices.Concat(der.Octets([]byte("one")), der.Octets([]byte("two")), der.Wrap(0x30, der.Octets([]byte("three"))), der.Text("four"))
	c := der.Open(b)
	one := c.Octets()
	fill(one)
	two := c.Octets()
	if string(two) != "two" {
		t.Errorf("the next answer changed with the first: %q", two)
	}
	fill(two)
	d := c.Into(0x30)
	if s := string(d.Octets()); s != "three" {
		t.Errorf("what is left changed with an answer: %q", s)
	}
	if s := c.Text(); s != "four" || !c.Whole() {
		t.Errorf("what is left changed with an answer: %q", s)
	}
	for i, lay := range []func() []byte{
		func() []byte { return der.Int(0) },
		func() []byte { return der.Int(5) },
		func() []byte { return der.Int(greatest) },
		func() []byte { return der.Octets(nil) },
		func() []byte { return der.Text("") },
		func() []byte { return der.Wrap(0x30) },
		func() []byte { return der.Wrap(0x30, []byte("abc")) },
	} {
		first := lay()
		want := string(first)
		fill(first)
		if again := string(lay()); again != want {
			t.Errorf("%d: %x, then %x", i, want, again)
		}
	}
}

// fill overwrites a row and its spare room.
func fill(p []byte) {
	p = p[:cap(p)]
	for i := range p {
		p[i] = '#'
	}
}

func TestAnswersStayWhatTheyAre(t *testing.T) {
	c := der.Open(slices.Concat(der.Octets([]byte("one")), der.Text("two"), der.Wrap(0x30, der.Int(3)), []byte{4, 9}))
	p, s, d := c.Octets(), c.Text(), c.Into(0x30)
	c.Octets()
	if string(p) != "one" || s != "two" || d.Left() != 3 || d.Int() != 3 || !d.Whole() {
		t.Errorf("%q, %q", p, s)
	}
	wantErred(t, "a cut element at the end", c)
}

func TestNilCursor(t *testing.T) {
	var c *der.Cursor
	wantErred(t, "nil", c)
	for _, k := range takers() {
		if p := k.take(c); len(p) != 0 {
			t.Errorf("%s of nil: %q", k.name, p)
		}
	}
	for _, tag := range []byte{0, 2, 4, 0x1b, 0x30, 0xff} {
		wantErred(t, "Into of nil", c.Into(tag))
	}
}

func FuzzCursorEnds(f *testing.F) {
	f.Add([]byte{2, 1, 5}, []byte{0})
	f.Add([]byte{0x30, 4, 4, 2, 'a', 'b'}, []byte{3, 1})
	f.Add([]byte{0x30, 0x82, 1, 0}, []byte{3, 2, 1, 0})
	f.Fuzz(func(t *testing.T, b, calls []byte) {
		c := der.Open(b)
		for _, k := range calls {
			left, good := c.Left(), c.Good()
			takers()[int(k)%4].take(c)
			switch {
			case !c.Good():
				wantErred(t, "fuzz", c)
			case !good || c.Left() > left-2:
				t.Fatal("an element has at least two bytes, and nothing is Good behind an error")
			}
		}
	})
}

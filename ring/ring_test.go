package ring_test

import (
	"bytes"
	"math"
	"math/rand"
	"regexp"
	"slices"
	"strconv"
	"strings"
	"sync"
	"testing"
	"unsafe"

	"legate/api"
	"legate/ring"
	"legate/seal"
)

var (
	joe   = api.Princ{Realm: "A.EDU", Name: "joe"}
	ann   = api.Princ{Realm: "A.EDU", Name: "ann"}
	other = api.Princ{Realm: "EDU", Name: "joe"}
	edu   = api.Princ{Realm: "A.EDU", Name: "krbtgt/EDU"}
	own   = api.Princ{Realm: "A.EDU", Name: "krbtgt/A.EDU"}
	hp    = api.Princ{Realm: "/COM/HP", Name: "krbtgt//COM"}
)

// fitPrincs may be, and are all unlike.
func fitPrincs() []api.Princ { return []api.Princ{joe, ann, other, edu, own, hp} }

// unfitRealms are none, and unfitNames nobody has.

func unfitRealms() []string {
	return []string{
		"", "a.edu", "A.edu", "a.EDU", "A..EDU", "A.EDU.", ".EDU", "A/EDU", "/COM/", "/com/hp", "COM/HP", "//COM", "A.B.C.D.E", "/A/B/C/D/E",
		"ABCDEFGHI", "A.EDU ", " A.EDU", "A.EDU\x00", "A.EDU\n", "A1.EDU", "É", "krbtgt/EDU", "joe", "\xff", "A.EDU,EDU",
	}
}

func unfitNames() []string {
	return []string{
		"", "Joe", "JOE", "joE", "jo e", "joe ", " joe", "joe.x", "joe/x", "abcdefghi", "jo\xff", "jo\x00", "é", "joe\n",
		"krbtgt/", "krbtgt/edu", "krbtgt/Edu", "KRBTGT/EDU", "Krbtgt/EDU", "krbtgt/A.B.C.D.E", "krbtgt/EDU ", "xkrbtgt/EDU", "krbtgt//", "/COM", "EDU",
	}
}

// unfitPrincs may not be: by the one, by the other, by both.
func unfitPrincs() []api.Princ {
	var l []api.Princ
	for _, r := range unfitRealms() {
		l = append(l, api.Princ{Realm: r, Name: "joe"}, api.Princ{Realm: r, Name: "krbtgt/EDU"}, api.Princ{Realm: r, Name: "JOE"}, api.Princ{Realm: r})
	}
	for _, n := range unfitNames() {
		l = append(l, api.Princ{Realm: "A.EDU", Name: n}, api.Princ{Realm: "/COM/HP", Name: n}, api.Princ{Realm: "a.edu", Name: n})
	}
	// What has the same bytes in all as joe, parted elsewhere.
	for i := range len("A.EDUjoe") + 1 {
		if i != len("A.EDU") {
			l = append(l, api.Princ{Realm: "A.EDUjoe"[:i], Name: "A.EDUjoe"[i:]})
		}
	}
	return l
}

// keyOf is a key of two unlike halves, another one for each number.
func keyOf(n int) api.Key {
	var k api.Key
	for i := range k {
		k[i] = byte(i) + byte(n>>(8*(i%4)))
	}
	return k
}

func text(p api.Princ, kvno int) string {
	s := strconv.QuoteToASCII(p.Realm) + " " + strconv.QuoteToASCII(p.Name) + " " + strconv.Itoa(kvno)
	return s[:min(len(s), 200)]
}

// The model: who may have keys, by patterns, and what was added, in order.

var (
	realmPattern = regexp.MustCompile(`^([A-Z]{1,8}(\.[A-Z]{1,8}){0,3}|(/[A-Z]{1,8}){1,4})$`)
	namePattern  = regexp.MustCompile(`^([a-z0-9]{1,8}|krbtgt/([A-Z]{1,8}(\.[A-Z]{1,8}){0,3}|(/[A-Z]{1,8}){1,4}))$`)
)

func modelIsPrinc(p api.Princ) bool {
	return realmPattern.MatchString(p.Realm) && namePattern.MatchString(p.Name)
}

// An added is one key that is there, its Box, and what the Counts of that have
// to be.
type added struct {
	p                       api.Princ
	key                     api.Key
	kvno                    int
	box                     *seal.Box
	sealed, opened, refused int
}

// A watch is a Ring, and what has to be in it.
type watch struct {
	t    *testing.T
	ring *ring.Ring
	l    []*added
}

func watched(t *testing.T) *watch {
	w := &watch{t: t, ring: ring.New()}
	w.wantAll("New")
	return w
}

func (w *watch) count(p api.Princ) int {
	n := 0
	for _, a := range w.l {
		if a.p == p {
			n++
		}
	}
	return n
}

// add wants what the document says of Add, and that all is there behind it.
func (w *watch) add(p api.Princ, k api.Key) (int, api.Errno) {
	w.t.Helper()
	want, wantErr := 0, api.OK
	switch {
	case !modelIsPrinc(p):
		wantErr = api.ErrArg
	case len(w.l) == 40 || w.count(p) == 255:
		wantErr = api.ErrFull
	default:
		want = w.count(p) + 1
	}
	n, err := w.ring.Add(p, k)
	if n != want || err != wantErr {
		w.t.Fatalf("Add(%s) is %d, %v, not %d, %v", text(p, want), n, err, want, wantErr)
	}
	if err == api.OK {
		w.keep(&added{p: p, key: k, kvno: n})
	}
	w.wantAll("Add(" + text(p, n) + "), which is " + strconv.Itoa(int(err)))
	return n, err
}

// keep wants that its Box is a new one, and keeps it.
func (w *watch) keep(a *added) {
	w.t.Helper()
	box, err := w.ring.Box(a.p, a.kvno)
	if box == nil || err != api.OK {
		w.t.Fatalf("Box(%s) of what was added is %p, %v", text(a.p, a.kvno), box, err)
	}
	for _, b := range w.l {
		if b.box == box {
			w.t.Errorf("Box(%s) is that of %s, too", text(a.p, a.kvno), text(b.p, b.kvno))
		}
	}
	a.box = box
	w.l = append(w.l, a)
}

// wantAll wants all that is there, and nothing else.
func (w *watch) wantAll(behind string) {
	w.t.Helper()
	if n := w.ring.Len(); n != len(w.l) {
		w.t.Errorf("behind %s Len is %d, not %d", behind, n, len(w.l))
	}
	var keys []api.Key
	for _, a := range w.l {
		keys = append(keys, a.key)
		w.wantBox(a)
	}
	if got := w.ring.Keys(); !slices.Equal(got, keys) {
		w.t.Errorf("behind %s Keys are %x, not %x", behind, got, keys)
	}
	for _, p := range fitPrincs() {
		w.wantLast(p)
		for _, kvno := range []int{0, -1, w.count(p) + 1} {
			w.wantNoBox(p, kvno)
		}
	}
}

// wantBox wants that Box and the counts of it are what they were.
func (w *watch) wantBox(a *added) {
	w.t.Helper()
	if box, err := w.ring.Box(a.p, a.kvno); box != a.box || err != api.OK {
		w.t.Errorf("Box(%s) is %p, %v, not %p", text(a.p, a.kvno), box, err, a.box)
	}
	if x, y, z := a.box.Counts(); x != a.sealed || y != a.opened || z != a.refused {
		w.t.Errorf("Counts of %s are %d, %d, %d, not %d, %d, %d", text(a.p, a.kvno), x, y, z, a.sealed, a.opened, a.refused)
	}
}

func (w *watch) wantNoBox(p api.Princ, kvno int) {
	w.t.Helper()
	if box, err := w.ring.Box(p, kvno); box != nil || err != api.ErrKey {
		w.t.Errorf("Box(%s) is %p, %v, not %v", text(p, kvno), box, err, api.ErrKey)
	}
}

// wantLast wants the last of a principal's keys, or that there is none.
func (w *watch) wantLast(p api.Princ) {
	w.t.Helper()
	var want added
	wantErr := api.ErrKey
	for _, a := range w.l {
		if a.p == p {
			want, wantErr = *a, api.OK
		}
	}
	if box, n, err := w.ring.Last(p); box != want.box || n != want.kvno || err != wantErr {
		w.t.Errorf("Last(%s) is %p, %d, %v, not %p, %d, %v", text(p, 0), box, n, err, want.box, want.kvno, wantErr)
	}
}

// use seals, opens and is refused, so many times each, and wants the Box to be
// that of its key.
func (w *watch) use(a *added, box *seal.Box, seals, opens, refusals int) {
	w.t.Helper()
	p := []byte("of " + text(a.p, a.kvno))
	want, _ := seal.New(a.key).Seal(2, 9, p)
	for range seals {
		if b, err := box.Seal(2, 9, p); err != api.OK || !bytes.Equal(b, want) {
			w.t.Errorf("the Box of %s seals %x, %v, not %x", text(a.p, a.kvno), b, err, want)
		}
	}
	for range opens {
		if q, err := box.Open(2, want); err != api.OK || !bytes.Equal(q, p) {
			w.t.Errorf("the Box of %s opens %q, %v, not %q", text(a.p, a.kvno), q, err, p)
		}
	}
	for range refusals {
		if q, err := box.Open(3, want); err != api.ErrSeal || len(q) != 0 {
			w.t.Errorf("the Box of %s opens %q, %v with another usage", text(a.p, a.kvno), q, err)
		}
	}
	a.sealed, a.opened, a.refused = a.sealed+seals, a.opened+opens, a.refused+refusals
}

func wantAdd(t *testing.T, r *ring.Ring, p api.Princ, k api.Key, n int, err api.Errno) {
	t.Helper()
	if m, e := r.Add(p, k); m != n || e != err {
		t.Errorf("Add(%s) is %d, %v, not %d, %v", text(p, n), m, e, n, err)
	}
}

// sealsAs tells whether a Box is one of that key.
func sealsAs(box *seal.Box, k api.Key) bool {
	b, err := box.Seal(1, 1, []byte("A.EDU"))
	c, _ := seal.New(k).Seal(1, 1, []byte("A.EDU"))
	return err == api.OK && bytes.Equal(b, c)
}

func TestTheExample(t *testing.T) {
	r := ring.New()
	a, b := keyOf(1), keyOf(2)
	wantAdd(t, r, joe, a, 1, api.OK)
	wantAdd(t, r, joe, b, 2, api.OK)
	box, n, err := r.Last(joe)
	if n != 2 || err != api.OK || !sealsAs(box, b) || sealsAs(box, a) {
		t.Errorf("Last is %p, %d, %v", box, n, err)
	}
	if same, err := r.Box(joe, 2); same != box || err != api.OK {
		t.Errorf("Box of 2 is %p, %v, not Last's %p", same, err, box)
	}
	if elder, err := r.Box(joe, 1); err != api.OK || elder == box || !sealsAs(elder, a) {
		t.Errorf("Box of 1 is %p, %v", elder, err)
	}
	if r.Len() != 2 || !slices.Equal(r.Keys(), []api.Key{a, b}) {
		t.Errorf("Len is %d, Keys are %x", r.Len(), r.Keys())
	}
}

// P9.1: Add of what may not be, behind none, behind few, in a full Ring.
func TestAddOfNoPrincipals(t *testing.T) {
	unfit := unfitPrincs()
	for _, there := range []int{0, 1, 5, 39, 40} {
		w := watched(t)
		for i := range there {
			w.add(fitPrincs()[i%4], keyOf(i))
		}
		for i, p := range unfit {
			if n, err := w.add(p, keyOf(i)); n != 0 || err != api.ErrArg {
				t.Errorf("behind %d Add(%s) is %d, %v", there, text(p, 0), n, err)
			}
			w.wantNoBox(p, 1)
			w.wantLast(p)
		}
		if there == 40 {
			wantAdd(t, w.ring, hp, keyOf(7), 0, api.ErrFull)
			continue
		}
		w.add(hp, keyOf(7))
	}
}

// P9.1: Add that errs, ahead of each that doesn't, takes no number.
func TestAddOfNoPrincipalsBetween(t *testing.T) {
	w := watched(t)
	unfit := unfitPrincs()
	for i := range 40 {
		p := fitPrincs()[i%3]
		for j := range 3 {
			w.add(unfit[(3*i+j)%len(unfit)], keyOf(i))
		}
		w.add(api.Princ{Realm: p.Realm, Name: strings.ToUpper(p.Name)}, keyOf(i))
		w.add(api.Princ{Realm: strings.ToLower(p.Realm), Name: p.Name}, keyOf(i))
		if n, err := w.add(p, keyOf(i)); n != i/3+1 || err != api.OK {
			t.Errorf("number %d of %s is %d, %v", i/3+1, text(p, 0), n, err)
		}
	}
	for _, p := range unfit {
		wantAdd(t, w.ring, p, keyOf(1), 0, api.ErrArg)
	}
	wantAdd(t, w.ring, joe, keyOf(1), 0, api.ErrFull)
}

// P9.1: each byte, at each place: what may not be has no key.
func TestAddOfEachByte(t *testing.T) {
	for _, p := range []api.Princ{{Realm: "A.B", Name: "j2"}, {Realm: "/A/B", Name: "krbtgt/A"}} {
		for i := range len(p.Realm) + len(p.Name) {
			for c := range 256 {
				b := []byte(p.Realm + p.Name)
				b[i] = byte(c)
				q := api.Princ{Realm: string(b[:len(p.Realm)]), Name: string(b[len(p.Realm):])}
				r := ring.New()
				n, err := r.Add(q, keyOf(c))
				if ok := modelIsPrinc(q); ok != (n == 1 && err == api.OK) || ok != (r.Len() == 1) || !ok && (n != 0 || err != api.ErrArg) {
					t.Errorf("Add(%s) is %d, %v, and Len %d", text(q, 1), n, err, r.Len())
				}
			}
		}
	}
}

// P9.1: each principal has its own numbers, whatever is added between.
func TestNumbersBetween(t *testing.T) {
	r := ring.New()
	for i, w := range []struct {
		p api.Princ
		n int
	}{
		{joe, 1}, {ann, 1}, {joe, 2}, {other, 1}, {edu, 1}, {ann, 2}, {ann, 3}, {joe, 3}, {hp, 1}, {own, 1}, {joe, 4}, {joe, 5},
		{edu, 2}, {hp, 2}, {other, 2}, {own, 2}, {ann, 4}, {joe, 6}, {hp, 3}, {hp, 4}, {hp, 5}, {other, 3}, {ann, 5}, {joe, 7},
	} {
		wantAdd(t, r, w.p, keyOf(i), w.n, api.OK)
		if box, err := r.Box(w.p, w.n); err != api.OK || !sealsAs(box, keyOf(i)) {
			t.Errorf("Box(%s) is %p, %v, not that of the key at %d", text(w.p, w.n), box, err, i)
		}
		if box, n, err := r.Last(w.p); err != api.OK || n != w.n || !sealsAs(box, keyOf(i)) {
			t.Errorf("Last(%s) is %p, %d, %v, not that of the key at %d", text(w.p, 0), box, n, err, i)
		}
		if r.Len() != i+1 {
			t.Errorf("behind %d keys Len is %d", i+1, r.Len())
		}
	}
}

// P9.1: principals that are alike but in one thing have their own keys each.
func TestPrincipalsThatAreAlike(t *testing.T) {
	w := watched(t)
	alike := []api.Princ{
		{Realm: "AB", Name: "c"}, {Realm: "A", Name: "bc"}, {Realm: "A", Name: "c"}, {Realm: "B", Name: "c"}, {Realm: "/AB", Name: "c"},
		{Realm: "A.B", Name: "c"}, {Realm: "/A/B", Name: "c"}, {Realm: "A.B", Name: "cc"}, {Realm: "A.B", Name: "krbtgt/A"},
		{Realm: "A.B", Name: "krbtgt//A"}, {Realm: "A", Name: "krbtgt/A.B"}, {Realm: "A", Name: "krbtgt/A"}, {Realm: "A", Name: "krbtgt"},
	}
	for i := range 3 * len(alike) {
		p := alike[i%len(alike)]
		if n, err := w.add(p, keyOf(i)); n != i/len(alike)+1 || err != api.OK {
			t.Errorf("Add(%s) is %d, %v", text(p, i/len(alike)+1), n, err)
		}
		for _, q := range alike {
			w.wantLast(q)
			w.wantNoBox(q, w.count(q)+1)
		}
	}
	for i, a := range w.l {
		w.use(a, a.box, 1, 1, 1)
		if !sealsAs(a.box, keyOf(i)) {
			t.Errorf("the Box of %s is not that of its key", text(a.p, a.kvno))
		}
		a.sealed++
	}
	w.wantAll("use of each")
}

// P9.1: small and great letters are others, and only those of chapter 5 may be.
func TestLetters(t *testing.T) {
	w := watched(t)
	w.add(joe, keyOf(1))
	w.add(edu, keyOf(2))
	for _, p := range []api.Princ{
		{Realm: "a.edu", Name: "joe"}, {Realm: "A.edu", Name: "joe"}, {Realm: "A.EDU", Name: "JOE"}, {Realm: "A.EDU", Name: "Joe"}, {Realm: "a.edu", Name: "JOE"},
		{Realm: "A.EDU", Name: "krbtgt/edu"}, {Realm: "A.EDU", Name: "KRBTGT/EDU"}, {Realm: "A.EDU", Name: "Krbtgt/EDU"}, {Realm: "a.edu", Name: "krbtgt/EDU"},
	} {
		if n, err := w.add(p, keyOf(3)); n != 0 || err != api.ErrArg {
			t.Errorf("Add(%s) is %d, %v", text(p, 0), n, err)
		}
		w.wantNoBox(p, 1)
		w.wantLast(p)
	}
	for i, p := range []api.Princ{{Realm: "A.EDU", Name: "edu"}, {Realm: "EDU", Name: "edu"}, {Realm: "EDU", Name: "a"}, {Realm: "A", Name: "a"}} {
		wantAdd(t, w.ring, p, keyOf(4+i), 1, api.OK)
	}
	wantAdd(t, w.ring, joe, keyOf(8), 2, api.OK)
}

// P9.1: MaxRing keys of one, of several, and one more: of one that has keys, of
// a new one, of none that may be.
func TestMaxRing(t *testing.T) {
	for _, several := range []int{1, 2, 3, 5} {
		w := watched(t)
		for i := range 40 {
			if n, err := w.add(fitPrincs()[i%several], keyOf(i)); n != i/several+1 || err != api.OK {
				t.Fatalf("of %d key %d is %d, %v", several, i+1, n, err)
			}
		}
		for range 3 {
			for i, p := range fitPrincs() {
				if n, err := w.add(p, keyOf(50+i)); n != 0 || err != api.ErrFull {
					t.Errorf("of %d key 41, of %s, is %d, %v", several, text(p, 0), n, err)
				}
			}
			if n, err := w.add(api.Princ{Realm: "A.EDU", Name: "Joe"}, keyOf(60)); n != 0 || err != api.ErrArg {
				t.Errorf("of %d key 41, of none that may be, is %d, %v", several, n, err)
			}
		}
		for _, a := range w.l {
			w.use(a, a.box, 1, 2, 3)
		}
		w.wantAll("what errs")
	}
}

// P9.1: MaxKvno keys of one principal and one more: MaxRing comes first.
func TestMaxKvno(t *testing.T) {
	r := ring.New()
	for i := range 260 {
		if i < 40 {
			wantAdd(t, r, joe, keyOf(i), i+1, api.OK)
			continue
		}
		wantAdd(t, r, joe, keyOf(i), 0, api.ErrFull)
		if box, n, err := r.Last(joe); n != 40 || err != api.OK || r.Len() != 40 || !sealsAs(box, keyOf(39)) {
			t.Errorf("behind %d Adds Last is %p, %d, %v, and Len %d", i+1, box, n, err, r.Len())
		}
		if box, err := r.Box(joe, i+1); box != nil || err != api.ErrKey {
			t.Errorf("Box of the number %d is %p, %v", i+1, box, err)
		}
	}
}

// P9.1: the same key again is one more key: it has a number and a Box of its
// own, of one principal and of two.
func TestTheSameKeyAgain(t *testing.T) {
	w := watched(t)
	k := keyOf(5)
	for i, p := range []api.Princ{joe, joe, ann, joe, ann, edu, joe} {
		w.add(p, k)
		if !slices.Equal(w.ring.Keys(), slices.Repeat([]api.Key{k}, i+1)) {
			t.Errorf("behind %d of one key Keys are %x", i+1, w.ring.Keys())
		}
	}
	for i, a := range w.l {
		w.use(a, a.box, i, i+1, i+2)
		w.wantAll("use of one of one key")
	}
	b, _ := w.l[0].box.Seal(2, 3, []byte("joe"))
	w.l[0].sealed++
	for _, a := range w.l {
		if p, err := a.box.Open(2, b); err != api.OK || string(p) != "joe" {
			t.Errorf("the Box of %s opens %q, %v of the same key's", text(a.p, a.kvno), p, err)
		}
		a.opened++
	}
	w.wantAll("Open of one another's")
}

// P9.1: keys of noughts are keys as others are.
func TestKeysOfNoughts(t *testing.T) {
	w := watched(t)
	for i := range 4 {
		w.add(fitPrincs()[i%2], api.Key{})
		w.use(w.l[i], w.l[i].box, 1, 1, 1)
	}
	w.wantAll("keys of noughts")
}

// P9.1: Box of each number that is there, and of those that are not.
func TestBoxByNumber(t *testing.T) {
	w := watched(t)
	unfit := unfitPrincs()
	for i := range 30 {
		w.add(fitPrincs()[i%4], keyOf(i))
	}
	for _, a := range w.l {
		box, err := w.ring.Box(a.p, a.kvno)
		if err != api.OK || box != a.box {
			t.Errorf("Box(%s) is %p, %v", text(a.p, a.kvno), box, err)
		}
		w.use(a, box, 1, 1, 1)
	}
	for _, p := range append(fitPrincs(), unfit...) {
		last := w.count(p)
		for _, n := range []int{
			0, -1, -2, last + 1, last + 2, 30, 40, 41, 255, 256, 257, 1 << 16, 1<<16 + 1, 1 << 32, 1<<32 + 1,
			-1 << 32, 1 - 1<<32, math.MaxInt, math.MinInt, math.MinInt + 1, math.MaxInt - 1,
		} {
			w.wantNoBox(p, n)
		}
		for n := range 10 {
			if n == 0 || n > last {
				w.wantNoBox(p, n)
			}
		}
	}
	w.wantAll("Boxes")
}

// P9.1: Last of none, of one key, of many; Adds of others leave it.
func TestLast(t *testing.T) {
	w := watched(t)
	for i := range 12 {
		w.add(joe, keyOf(i))
		box, n, err := w.ring.Last(joe)
		if n != i+1 || err != api.OK || !sealsAs(box, keyOf(i)) {
			t.Errorf("Last of %d is %p, %d, %v", i+1, box, n, err)
		}
		w.l[len(w.l)-1].sealed++
		w.add(ann, keyOf(100+i))
		if same, m, err := w.ring.Last(joe); same != box || m != n || err != api.OK {
			t.Errorf("behind another one's key Last of %d is %p, %d, %v, not %p", i+1, same, m, err, box)
		}
	}
	for _, p := range append([]api.Princ{hp, own, other}, unfitPrincs()...) {
		if box, n, err := w.ring.Last(p); box != nil || n != 0 || err != api.ErrKey {
			t.Errorf("Last(%s) is %p, %d, %v", text(p, 0), box, n, err)
		}
	}
}

// P9.1: always the same Box, whatever was added and asked meanwhile.
func TestAlwaysTheSameBox(t *testing.T) {
	r := ring.New()
	var first [40]*seal.Box
	for i := range first {
		p := fitPrincs()[i%2]
		wantAdd(t, r, p, keyOf(i), i/2+1, api.OK)
		last, n, _ := r.Last(p)
		first[i] = last
		for j := range i + 1 {
			q := fitPrincs()[j%2]
			for range 2 {
				if box, err := r.Box(q, j/2+1); box != first[j] || err != api.OK {
					t.Errorf("behind %d keys Box(%s) is %p, %v, not %p", i+1, text(q, j/2+1), box, err, first[j])
				}
			}
		}
		if box, m, err := r.Last(p); box != last || m != n || err != api.OK {
			t.Errorf("behind %d keys Last is %p, %d, %v, not %p, %d", i+1, box, m, err, last, n)
		}
		r.Keys()
	}
}

// P9.1: what one Box of a key sealed another one of it opens, and an elder key's
// Box still opens what it sealed; others refuse.
func TestWhatABoxOpens(t *testing.T) {
	r, s := ring.New(), ring.New()
	var sealed [20][]byte
	for i := range sealed {
		wantAdd(t, r, joe, keyOf(i), i+1, api.OK)
		wantAdd(t, s, edu, keyOf(i), i+1, api.OK)
		box, n, _ := r.Last(joe)
		sealed[i], _ = box.Seal(api.UseTicket, i, []byte(strconv.Itoa(n)))
		for j := range i + 1 {
			elder, _ := r.Box(joe, j+1)
			away, _ := s.Box(edu, j+1)
			for _, x := range []*seal.Box{elder, away, seal.New(keyOf(j))} {
				if p, err := x.Open(api.UseTicket, sealed[j]); err != api.OK || string(p) != strconv.Itoa(j+1) {
					t.Errorf("behind %d keys what %d sealed opens as %q, %v", i+1, j+1, p, err)
				}
				if p, err := x.Open(api.UseTicket, sealed[(j+1)%(i+1)]); i > 0 && (err != api.ErrSeal || len(p) != 0) {
					t.Errorf("behind %d keys what another one than %d sealed opens as %q, %v", i+1, j+1, p, err)
				}
			}
		}
	}
}

// P9.1: Keys of none, of some, of all; each answer is new memory, its spare room
// too, and stays what it is.
func TestKeys(t *testing.T) {
	r := ring.New()
	if keys := r.Keys(); len(keys) != 0 || r.Len() != 0 {
		t.Errorf("Keys of none are %x, Len %d", keys, r.Len())
	}
	var want []api.Key
	var answers [][]api.Key
	for i := range 40 {
		// Neither the keys nor those whose they are stand in order.
		p, k := fitPrincs()[i*i%5], keyOf(97*i%41)
		want = append(want, k)
		wantAdd(t, r, p, k, numberOf(i), api.OK)
		answers = append(answers, r.Keys())
		spoiled := r.Keys()
		spoiled = spoiled[:cap(spoiled)]
		for j := range spoiled {
			spoiled[j] = api.Key{0xee}
		}
		for j, keys := range answers {
			if !slices.Equal(keys, want[:j+1]) {
				t.Errorf("behind %d keys what Keys was behind %d is %x", i+1, j+1, keys)
			}
		}
		if r.Len() != i+1 {
			t.Errorf("behind %d keys Len is %d", i+1, r.Len())
		}
		if box, n, err := r.Last(p); err != api.OK || n != numberOf(i) || !sealsAs(box, k) {
			t.Errorf("behind changed Keys Last is %p, %d, %v", box, n, err)
		}
	}
}

// numberOf is the number of the key at i of TestKeys.
func numberOf(i int) int {
	n := 0
	for j := range i + 1 {
		if j*j%5 == i*i%5 {
			n++
		}
	}
	return n
}

// P9.2: two Rings have nothing in common, with the same keys of the same
// principals.
func TestTwoRings(t *testing.T) {
	v, w := watched(t), watched(t)
	for i := range 12 {
		v.add(fitPrincs()[i%3], keyOf(i))
		w.wantAll("Add to another Ring")
	}
	for i := range 40 {
		w.add(fitPrincs()[i%3], keyOf(i))
		v.wantAll("Add to another Ring")
	}
	for i, a := range v.l {
		if a.box == w.l[i].box {
			t.Errorf("two Rings have one Box of %s", text(a.p, a.kvno))
		}
		v.use(a, a.box, 1, 2, 3)
		w.wantAll("use of another Ring's Box")
		w.use(w.l[i], w.l[i].box, 3, 2, 1)
		v.wantAll("use of another Ring's Box")
	}
	v.add(joe, keyOf(77))
	w.wantAll("Add to another Ring")
}

// P9.2: Counts are of all that was done, by whomever the Box was got, ahead of
// Adds and behind them.
func TestCountsOfAll(t *testing.T) {
	w := watched(t)
	w.add(joe, keyOf(1))
	first, _, _ := w.ring.Last(joe)
	w.use(w.l[0], first, 1, 0, 0)
	w.wantAll("use of Last's")
	w.add(ann, keyOf(2))
	second, _ := w.ring.Box(joe, 1)
	w.use(w.l[0], second, 1, 1, 0)
	w.wantAll("use of Box's")
	w.use(w.l[1], w.l[1].box, 2, 0, 5)
	w.wantAll("use of another one's")
	w.add(joe, keyOf(3))
	w.add(joe, keyOf(1))
	w.use(w.l[0], first, 0, 2, 1)
	w.wantAll("use of what was got ahead of Adds")
	third, n, _ := w.ring.Last(joe)
	w.use(w.l[3], third, 4, 4, 4)
	w.wantAll("use of the same key's")
	if n != 3 {
		t.Errorf("Last of three is %d", n)
	}
	if a, b, c := first.Counts(); a != 2 || b != 3 || c != 1 {
		t.Errorf("Counts of the first are %d, %d, %d", a, b, c)
	}
	first.Seal(256, 1, nil)
	first.Open(-1, nil)
	w.wantAll("what errs with ErrArg")
}

// P9.2: of a nil Ring Add answers ErrArg, Box and Last ErrKey, all else nothing.
func TestNilRing(t *testing.T) {
	var r *ring.Ring
	for range 2 {
		for _, p := range append(fitPrincs(), unfitPrincs()...) {
			wantAdd(t, r, p, keyOf(1), 0, api.ErrArg)
			for _, n := range []int{-1, 0, 1, 2, 255, 256} {
				if box, err := r.Box(p, n); box != nil || err != api.ErrKey {
					t.Errorf("Box(%s) of a nil Ring is %p, %v", text(p, n), box, err)
				}
			}
			if box, n, err := r.Last(p); box != nil || n != 0 || err != api.ErrKey {
				t.Errorf("Last(%s) of a nil Ring is %p, %d, %v", text(p, 0), box, n, err)
			}
		}
		if len(r.Keys()) != 0 || r.Len() != 0 {
			t.Errorf("Keys of a nil Ring are %x, Len %d", r.Keys(), r.Len())
		}
	}
}

// W1, W8: a Ring that New didn't make ends, too, and one that was copied goes on
// with what it has.
func TestOtherRings(t *testing.T) {
	var r ring.Ring
	if box, n, err := r.Last(joe); box != nil || n != 0 || err != api.ErrKey {
		t.Errorf("Last of a Ring of nothing is %p, %d, %v", box, n, err)
	}
	wantAdd(t, &r, joe, keyOf(1), 1, api.OK)
	wantAdd(t, &r, ann, keyOf(2), 1, api.OK)
	box, _ := r.Box(joe, 1)
	c := r
	wantAdd(t, &c, joe, keyOf(3), 2, api.OK)
	if same, err := c.Box(joe, 1); same != box || err != api.OK {
		t.Errorf("Box of a copy is %p, %v, not %p", same, err, box)
	}
	if keys := c.Keys(); !slices.Equal(keys, []api.Key{keyOf(1), keyOf(2), keyOf(3)}) || c.Len() != 3 {
		t.Errorf("Keys of a copy are %x, Len %d", keys, c.Len())
	}
}

// turning is a text of bytes that can be turned.
func turning(s string) (string, []byte) {
	b := []byte(s)
	return unsafe.String(unsafe.SliceData(b), len(b)), b
}

// W6: what is handed in is neither changed nor kept.
func TestNothingHandedInIsKept(t *testing.T) {
	r := ring.New()
	for i, p := range fitPrincs() {
		realm, b := turning(p.Realm)
		name, c := turning(p.Name)
		k := keyOf(i)
		q := api.Princ{Realm: realm, Name: name}
		wantAdd(t, r, q, k, 1, api.OK)
		r.Box(q, 1)
		r.Last(q)
		if string(b) != p.Realm || string(c) != p.Name || k != keyOf(i) {
			t.Errorf("what was handed in became %q, %q, %x", b, c, k)
		}
		for _, turned := range [][]byte{b, c, k[:]} {
			for j := range turned {
				turned[j] = 'Z'
			}
		}
		if box, err := r.Box(p, 1); err != api.OK || !sealsAs(box, keyOf(i)) {
			t.Errorf("behind changed texts Box(%s) is %p, %v", text(p, 1), box, err)
		}
		if box, n, err := r.Last(p); n != 1 || err != api.OK || !sealsAs(box, keyOf(i)) {
			t.Errorf("behind changed texts Last(%s) is %p, %d, %v", text(p, 0), box, n, err)
		}
		if keys := r.Keys(); keys[i] != keyOf(i) {
			t.Errorf("behind a changed key Keys are %x", keys)
		}
	}
	for _, p := range fitPrincs() {
		wantAdd(t, r, p, keyOf(9), 2, api.OK)
	}
}

// Ways: Boxes that were never used before are shared by many at a time, got by
// Box and by Last: each answer is that of one alone, none is lost from Counts.
func TestManyAtATime(t *testing.T) {
	const workers, rounds = 4, 20
	r := ring.New()
	for i := range 40 {
		p := fitPrincs()[i%2]
		wantAdd(t, r, p, keyOf(i), i/2+1, api.OK)
		start := make(chan struct{})
		var all sync.WaitGroup
		for worker := range workers {
			box, _, err := r.Last(p)
			if worker%2 == 0 {
				box, err = r.Box(p, i/2+1)
			}
			if err != api.OK {
				t.Fatal("no Box", i, err)
			}
			all.Go(func() {
				<-start
				for n := range rounds {
					sealAndOpen(t, box, keyOf(i), worker*rounds+n)
				}
			})
		}
		close(start)
		all.Wait()
		box, _ := r.Box(p, i/2+1)
		if a, b, c := box.Counts(); a != workers*rounds || b != workers*rounds || c != workers*rounds {
			t.Errorf("behind %d of each Counts are %d, %d, %d", workers*rounds, a, b, c)
		}
	}
}

// sealAndOpen does each of the three that are counted, once.
func sealAndOpen(t *testing.T, x *seal.Box, k api.Key, n int) {
	p := []byte(strconv.Itoa(n))
	want, _ := seal.New(k).Seal(2, n, p)
	if b, err := x.Seal(2, n, p); err != api.OK || !bytes.Equal(b, want) {
		t.Errorf("of many at a time Seal is %x, %v, not %x", b, err, want)
	}
	if q, err := x.Open(2, want); err != api.OK || !bytes.Equal(q, p) {
		t.Errorf("of many at a time Open is %q, %v, not %q", q, err, p)
	}
	if q, err := x.Open(3, want); err != api.ErrSeal || len(q) != 0 {
		t.Errorf("of many at a time Open with another usage is %q, %v", q, err)
	}
}

// P9.1, P9.2, W2: rows of calls, on two Rings in turn, against the model.
func TestRandomCalls(t *testing.T) {
	rnd := rand.New(rand.NewSource(90))
	unfit := unfitPrincs()
	for range 40 {
		l := []*watch{watched(t), watched(t)}
		princs := fitPrincs()[:1+rnd.Intn(6)]
		for range 150 {
			w, p := l[rnd.Intn(2)], princs[rnd.Intn(len(princs))]
			switch rnd.Intn(5) {
			case 0:
				w.add(p, keyOf(rnd.Intn(10)))
			case 1:
				w.add(p, keyOf(rnd.Intn(1<<20)))
			case 2:
				w.add(unfit[rnd.Intn(len(unfit))], keyOf(rnd.Intn(10)))
			case 3:
				w.useAny(rnd)
			case 4:
				w.wantNoBox(p, w.count(p)+1+rnd.Intn(300))
			}
		}
		l[0].wantAll("all")
		l[1].wantAll("all")
	}
}

func (w *watch) useAny(rnd *rand.Rand) {
	w.t.Helper()
	if len(w.l) == 0 {
		return
	}
	a := w.l[rnd.Intn(len(w.l))]
	box, err := w.ring.Box(a.p, a.kvno)
	if a.kvno == w.count(a.p) {
		box, _, err = w.ring.Last(a.p)
	}
	if err != api.OK {
		w.t.Fatalf("no Box of %s: %v", text(a.p, a.kvno), err)
	}
	w.use(a, box, rnd.Intn(3), rnd.Intn(3), rnd.Intn(3))
	w.wantAll("use of one of them")
}

// W1: texts of any length and of any bytes end.
func TestAnyTexts(t *testing.T) {
	w := watched(t)
	w.add(joe, keyOf(1))
	for _, s := range []string{"A", "a", ".", "/", "A.", "/A", "krbtgt/", "\x00", "\xff", "é", "A.EDU", "joe"} {
		for _, n := range []int{1, 9, 1000, 1 << 20} {
			long := strings.Repeat(s, n)
			for _, p := range []api.Princ{{Realm: long, Name: "joe"}, {Realm: "A.EDU", Name: long}, {Realm: long, Name: long}} {
				if p == joe || modelIsPrinc(p) {
					continue
				}
				wantAdd(t, w.ring, p, keyOf(2), 0, api.ErrArg)
				w.wantNoBox(p, 1)
				w.wantLast(p)
			}
		}
	}
	w.wantAll("long texts")
}

package cache_test

import (
	"math"
	"math/rand"
	"slices"
	"strconv"
	"strings"
	"testing"
	"unsafe"

	"legate/api"
	"legate/cache"
)

var (
	web = princ("B.EDU", "web")
	own = princ("A.EDU", "krbtgt/A.EDU")
)

func wantPut(t *testing.T, c *cache.Cache, p api.Princ, x api.Cred, now int, err api.Errno) {
	t.Helper()
	if e := c.Put(p, x, now); e != err {
		t.Errorf("Put(%s, %s, %d) is %v, not %v", text(p), show(x), now, e, err)
	}
}

func wantCred(t *testing.T, c *cache.Cache, p api.Princ, now int, want api.Cred) {
	t.Helper()
	if x, ok := c.Get(p, now); !ok || !same(x, want) {
		t.Errorf("Get(%s, %d) is %s, %v, not %s", text(p), now, show(x), ok, show(want))
	}
}

func wantNone(t *testing.T, c *cache.Cache, p api.Princ, now int) {
	t.Helper()
	if x, ok := c.Get(p, now); ok || !same(x, api.Cred{}) || x.Ticket.Blob != nil {
		t.Errorf("Get(%s, %d) is %s, %v, not none", text(p), now, show(x), ok)
	}
}

func wantLen(t *testing.T, c *cache.Cache, n int) {
	t.Helper()
	if got := c.Len(); got != n {
		t.Errorf("Len is %d, not %d", got, n)
	}
}

func TestTheExample(t *testing.T) {
	c := cache.New()
	wantLen(t, c, 0)
	wantPut(t, c, web, credOf(1, 5), 0, api.OK)
	wantNone(t, c, web, 6)
	wantCred(t, c, web, 5, credOf(1, 5))
	wantLen(t, c, 1)
}

// P11.1: each field of what was Put is there.
func TestEachField(t *testing.T) {
	for i, x := range []api.Cred{
		{}, credOf(1, 0),
		{Ticket: api.Ticket{Server: princ("A.EDU", "")}}, {Ticket: api.Ticket{Server: princ("", "joe")}},
		{Ticket: api.Ticket{Kvno: 1}}, {Ticket: api.Ticket{Kvno: -1}}, {Ticket: api.Ticket{Kvno: math.MinInt}}, {Ticket: api.Ticket{Kvno: math.MaxInt}},
		{Ticket: api.Ticket{Blob: []byte{0}}}, {Ticket: api.Ticket{Blob: []byte{}}}, {Ticket: api.Ticket{Blob: make([]byte, 5000)}},
		{Session: api.Key{1}}, {Session: api.Key{31: 1}}, {End: 1}, {End: math.MaxInt},
	} {
		c := cache.New()
		wantPut(t, c, web, copied(x), 0, api.OK)
		wantLen(t, c, 1)
		for range 2 {
			wantCred(t, c, web, 0, x)
		}
		if t.Failed() {
			t.Fatalf("that was Cred %d", i)
		}
	}
}

// P11.1: what a principal has goes by that principal, whatever server the ticket
// is of.
func TestOtherServers(t *testing.T) {
	w := watched(t)
	x, y := credOf(1, 50), credOf(2, 60)
	x.Ticket.Server, y.Ticket.Server = own, own
	w.put(web, x, 0)
	w.get(own, 0)
	wantNone(t, w.cache, own, 0)
	w.put(fits()[5], y, 0)
	w.put(own, credOf(3, 70), 0)
	wantLen(t, w.cache, 3)
	wantCred(t, w.cache, web, 0, x)
}

// P11.1: an End below now, at now and above, by each number of both: Get goes by
// it, Put of it doesn't, and Put of another one sends away what is below now.
func TestEachEndAtEachTime(t *testing.T) {
	for _, end := range numbers() {
		for _, now := range numbers() {
			for _, then := range numbers() {
				c := cache.New()
				wantPut(t, c, web, credOf(1, end), now, api.OK)
				wantLen(t, c, 1)
				wantPut(t, c, own, credOf(2, math.MinInt), then, api.OK)
				if end < then {
					wantLen(t, c, 1)
					wantNone(t, c, web, math.MinInt)
				} else {
					wantLen(t, c, 2)
					wantCred(t, c, web, then, credOf(1, end))
				}
				wantCred(t, c, own, math.MinInt, credOf(2, math.MinInt))
			}
			c := cache.New()
			wantPut(t, c, web, credOf(1, end), 0, api.OK)
			if end < now {
				wantNone(t, c, web, now)
			} else {
				wantCred(t, c, web, now, credOf(1, end))
			}
			wantLen(t, c, 1)
			wantCred(t, c, web, end, credOf(1, end))
		}
		if t.Failed() {
			t.Fatalf("that was the End %d", end)
		}
	}
}

// P11.1: Get of one that has ended, and of one that has not, leaves all there,
// Len too: when now goes back, it is got again.
func TestGetChangesNothing(t *testing.T) {
	w := watched(t)
	for i := range 6 {
		w.put(fits()[i], credOf(i, 10*i), 0)
	}
	for _, now := range []int{0, 1, 9, 10, 11, 49, 50, 51, 1000, math.MaxInt, 30, 0, math.MinInt} {
		for _, p := range fits() {
			w.get(p, now)
			wantLen(t, w.cache, 6)
		}
		w.wantAll("Gets at " + strconv.Itoa(now))
	}
	// A Put whose now is no greater finds all that were there.
	w.put(fits()[6], credOf(6, 60), 0)
	wantLen(t, w.cache, 7)
}

// P11.1: what a principal had is no more, whichever of them ends first.
func TestPutAgain(t *testing.T) {
	for _, first := range []int{20, 50, 80} {
		for _, second := range []int{20, 50, 80} {
			for _, now := range []int{0, 20, 21, 50, 51, 80, 81} {
				w := watched(t)
				w.put(own, credOf(1, 90), 0)
				w.put(web, credOf(2, first), 0)
				w.put(fits()[3], credOf(3, 90), 0)
				w.put(web, credOf(4, second), now)
				wantLen(t, w.cache, 3)
				wantCred(t, w.cache, web, second, credOf(4, second))
				wantNone(t, w.cache, web, second+1)
			}
		}
	}
	w := watched(t)
	for i := range 30 {
		w.put(web, credOf(i, 100-i), 0)
		wantLen(t, w.cache, 1)
	}
	w.put(web, credOf(29, 71), 0)
	wantLen(t, w.cache, 1)
}

// P11.1: a Cred that has ended when it is Put is there until the next Put.
func TestPutOfOneThatHasEnded(t *testing.T) {
	w := watched(t)
	w.put(own, credOf(1, 9), 10)
	wantLen(t, w.cache, 1)
	wantNone(t, w.cache, own, 10)
	wantCred(t, w.cache, own, 9, credOf(1, 9))
	w.put(web, credOf(2, -5), 10)
	wantLen(t, w.cache, 1)
	wantNone(t, w.cache, own, 9)
	wantCred(t, w.cache, web, -5, credOf(2, -5))
	// In place of one that has not ended.
	w.put(web, credOf(3, 50), 10)
	w.put(web, credOf(4, 3), 10)
	wantLen(t, w.cache, 1)
	wantNone(t, w.cache, web, 10)
	wantCred(t, w.cache, web, 3, credOf(4, 3))
	// Ten at a time at which all have ended: one alone is there each time.
	for i := range 12 {
		w.put(fits()[i], credOf(i, 3), 10)
		wantLen(t, w.cache, 1)
	}
	// And at one at which none has.
	for i := range 10 {
		w.put(fits()[i], credOf(i, 3), 3)
	}
	wantLen(t, w.cache, 10)
}

// P11.1: now that goes back: what is gone stays away, what is there is there.
func TestNowThatGoesBack(t *testing.T) {
	w := watched(t)
	w.put(own, credOf(1, 30), 0)
	w.put(web, credOf(2, 50), 40)
	wantNone(t, w.cache, own, 0)
	wantLen(t, w.cache, 1)
	w.put(fits()[2], credOf(3, 10), 20)
	wantLen(t, w.cache, 2)
	wantNone(t, w.cache, own, 0)
	w.put(fits()[3], credOf(4, 60), 10)
	wantLen(t, w.cache, 3)
	w.put(fits()[4], credOf(5, 60), math.MinInt)
	wantLen(t, w.cache, 4)
	w.put(fits()[5], credOf(6, math.MinInt), 50)
	wantLen(t, w.cache, 4)
	w.put(fits()[6], credOf(7, 5), math.MinInt)
	wantLen(t, w.cache, 5)
	w.put(fits()[7], credOf(8, 5), math.MaxInt)
	wantLen(t, w.cache, 1)
}

// P11.1: MaxCache there, and one more: ErrFull, and nothing has changed.
func TestMaxCache(t *testing.T) {
	w := full(t)
	for range 3 {
		for i := 10; i < len(fits()); i++ {
			for _, now := range []int{math.MinInt, 0, 99, 100} {
				if err := w.put(fits()[i], credOf(i, 500), now); err != api.ErrFull {
					t.Errorf("with ten there Put(%s) at %d is %v", text(fits()[i]), now, err)
				}
				if err := w.put(fits()[i], credOf(i, now), now); err != api.ErrFull {
					t.Errorf("with ten there Put(%s) at its own End is %v", text(fits()[i]), err)
				}
				wantLen(t, w.cache, 10)
			}
		}
	}
	// One who is there is no more of them.
	for i := range 10 {
		if err := w.put(fits()[i], credOf(20+i, 90+i), 50); err != api.OK {
			t.Errorf("with ten there Put again of %s is %v", text(fits()[i]), err)
		}
		wantLen(t, w.cache, 10)
		if err := w.put(fits()[10], credOf(10, 500), 50); err != api.ErrFull {
			t.Errorf("behind that Put of another one is %v", err)
		}
	}
}

// P11.1: nothing that was handed in with an ErrFull stays, nor does it take the
// place of another one when there is room.
func TestErrFullLeavesNothing(t *testing.T) {
	w := full(t, 10)
	w.put(fits()[10], credOf(10, 500), 0)
	w.put(fits()[10], credOf(10, 500), 10)
	wantLen(t, w.cache, 10)
	w.put(fits()[11], credOf(11, 500), 11)
	wantLen(t, w.cache, 10)
	wantNone(t, w.cache, fits()[10], 0)
	wantNone(t, w.cache, fits()[0], 0)
	wantCred(t, w.cache, fits()[11], 0, credOf(11, 500))
	w.clear()
	wantNone(t, w.cache, fits()[10], 0)
}

// P11.1: MaxCache there, of which none, some, all have ended, at each place: of
// one who is not there, of one whose Cred has ended, of one whose has not.
func TestMaxCacheOfWhichSomeHaveEnded(t *testing.T) {
	for ended := range 1 << 10 {
		count := 0
		ends := make([]int, 10)
		for i := range ends {
			ends[i] = 50 + i%2
			if ended>>i&1 == 1 {
				ends[i] = 49 - i%3
				count++
			}
		}
		// Whose Put it is goes round, so that it comes to all.
		i := ended % 12
		w := full(t, ends...)
		err := w.put(fits()[i], credOf(30, 70), 50)
		want, left := api.OK, 10-count+1
		if i < 10 && ended>>i&1 == 0 {
			left--
		}
		if left > 10 {
			want, left = api.ErrFull, 10
		}
		if err != want {
			t.Errorf("of ten with the Ends %v Put of %d is %v, not %v", ends, i, err, want)
		}
		wantLen(t, w.cache, left)
	}
}

// P11.1: ten that end at one time: at it none goes, behind it all go.
func TestMaxCacheOfWhichAllHaveEnded(t *testing.T) {
	for _, i := range []int{0, 4, 9, 10, 11} {
		w := full(t)
		want := api.OK
		if i > 9 {
			want = api.ErrFull
		}
		if err := w.put(fits()[i], credOf(40, 100), 100); err != want {
			t.Errorf("at the End of ten Put of %d is %v, not %v", i, err, want)
		}
		wantLen(t, w.cache, 10)
		if err := w.put(fits()[i], credOf(41, 100), 101); err != api.OK {
			t.Errorf("behind the End of ten Put of %d is %v", i, err)
		}
		wantLen(t, w.cache, 1)
		wantCred(t, w.cache, fits()[i], 100, credOf(41, 100))
		for j := range 9 {
			w.put(princ("C", strconv.Itoa(j)), credOf(j, 100), 100)
		}
		if err := w.put(princ("C", "more"), credOf(9, 100), 100); err != api.ErrFull {
			t.Errorf("Put of the eleventh behind that is %v", err)
		}
	}
}

// alike are groups of principals: those of one group differ in one thing.
func alike() map[string][]api.Princ {
	long := strings.Repeat("A", 1<<16)
	return map[string][]api.Princ{
		"name":          {princ("A.EDU", "joe"), princ("A.EDU", "jo"), princ("A.EDU", "joee"), princ("A.EDU", "jof"), princ("A.EDU", "koe"), princ("A.EDU", "krbtgt/A.EDU")},
		"realm":         {princ("A.EDU", "joe"), princ("B.EDU", "joe"), princ("EDU", "joe"), princ("A.ED", "joe"), princ("/A/EDU", "joe"), princ("A.EDU.B", "joe")},
		"case":          {princ("A.EDU", "joe"), princ("a.edu", "joe"), princ("A.EDU", "JOE"), princ("A.EDU", "Joe"), princ("A.edu", "joe"), princ("a.edu", "JOE")},
		"end of a text": {princ("A", "BC"), princ("AB", "C"), princ("ABC", ""), princ("", "ABC")},
		"signs": {
			princ("A", "/B"), princ("A/", "B"), princ("A", "\x00B"), princ("A\x00", "B"), princ("A", ",B"), princ("A,", "B"), princ("A", " B"), princ("A ", "B"), princ("A@", "B"), princ("A", "@B"),
		},
		"turned":        {princ("A", "B"), princ("B", "A")},
		"empty texts":   {princ("", ""), princ("A", ""), princ("", "A"), princ("\x00", ""), princ("", "\x00"), princ(" ", ""), princ("", " "), princ("\x00", "\x00")},
		"blanks":        {princ("A", "b"), princ("A ", "b"), princ(" A", "b"), princ("A", "b "), princ("A", " b"), princ("A\n", "b"), princ("A", "b\x00"), princ("A\x00", "b")},
		"no characters": {princ("A", "\xff"), princ("A", "\xfe"), princ("A", "\ufffd"), princ("\xff", "A"), princ("A", "\xff\xff"), princ("A", "\xc3"), princ("A", "é"), princ("A", "e\u0301")},
		"long texts": {
			princ(long, "b"), princ(long+"A", "b"), princ(long[1:], "b"), princ(long+"B", "b"), princ("B"+long, "b"),
			princ("b", long), princ("b", long+"A"), princ("b", long+"B"), princ(long, long), princ("", long),
		},
	}
}

// P11.1: principals that are alike but in one thing have their own each.
func TestPrincipalsThatAreAlike(t *testing.T) {
	for name, l := range alike() {
		t.Run(name, func(t *testing.T) {
			w := watched(t)
			for _, p := range l {
				w.named[p]++
			}
			for i, p := range l {
				wantNone(t, w.cache, p, 0)
				w.put(p, credOf(i, 50+i), 0)
				wantLen(t, w.cache, i+1)
			}
			for i, p := range l {
				wantCred(t, w.cache, p, 50+i, credOf(i, 50+i))
				wantNone(t, w.cache, p, 51+i)
				w.put(p, credOf(20+i, 70+i), 0)
				wantLen(t, w.cache, len(l))
			}
			// Those whose texts are the same, but not in the same place, are the same.
			for i, p := range l {
				q := princ(strings.Clone(p.Realm), strings.Clone(p.Name))
				wantCred(t, w.cache, q, 0, credOf(20+i, 70+i))
			}
			// They end one behind the other.
			for i, p := range l {
				w.put(web, credOf(i, 500), 70+i+1)
				wantNone(t, w.cache, p, 0)
				wantLen(t, w.cache, len(l)-i)
			}
		})
	}
}

// P11.1: each byte, at each place, makes another principal.
func TestPrincipalsByEachByte(t *testing.T) {
	c := cache.New()
	wantPut(t, c, princ("AB", "cd"), credOf(1, 50), 0, api.OK)
	for i := range 4 {
		for b := range 256 {
			l := []byte("ABcd")
			was := l[i]
			l[i] = byte(b)
			p := princ(string(l[:2]), string(l[2:]))
			if byte(b) == was {
				wantCred(t, c, p, 0, credOf(1, 50))
				continue
			}
			wantNone(t, c, p, 0)
			wantPut(t, c, p, credOf(2, 10), 11, api.OK)
			wantLen(t, c, 2)
			wantCred(t, c, p, 10, credOf(2, 10))
			wantCred(t, c, princ("AB", "cd"), 0, credOf(1, 50))
		}
	}
}

// P11.1: Clear of a full one, of an empty one, of a few, and what can be Put
// behind it.
func TestClear(t *testing.T) {
	w := watched(t)
	for range 2 {
		w.clear()
		wantLen(t, w.cache, 0)
	}
	for _, count := range []int{0, 1, 5, 10, 10, 3} {
		for i := range count {
			if err := w.put(fits()[(i+count)%12], credOf(i, 50), 0); err != api.OK {
				t.Errorf("behind Clear Put of the one at %d is %v", i, err)
			}
			wantLen(t, w.cache, i+1)
		}
		w.clear()
		wantLen(t, w.cache, 0)
		for _, p := range fits() {
			wantNone(t, w.cache, p, math.MinInt)
		}
	}
	for i := range 10 {
		w.put(fits()[i], credOf(i, 50), 0)
	}
	if err := w.put(fits()[10], credOf(10, 50), 0); err != api.ErrFull {
		t.Errorf("behind Clear and ten Put is %v", err)
	}
	w.clear()
	if err := w.put(fits()[10], credOf(10, 50), 0); err != api.OK {
		t.Errorf("behind Clear of a full one Put is %v", err)
	}
	wantLen(t, w.cache, 1)
}

// P11.1: all scripts of three calls of Put and Clear, of two principals and a few
// times, with nothing asked but behind the last one.
func TestAllShortScripts(t *testing.T) {
	type call struct {
		p        api.Princ
		end, now int
		clear    bool
	}
	l := []call{{clear: true}}
	for _, p := range []api.Princ{own, web} {
		for end := range 3 {
			for now := range 3 {
				l = append(l, call{p: p, end: end, now: now})
			}
		}
	}
	for script := range len(l) * len(l) * len(l) {
		w := &watch{t: t, cache: cache.New(), has: map[api.Princ]api.Cred{}, named: map[api.Princ]int{}}
		for i, n := range []int{script % len(l), script / len(l) % len(l), script / len(l) / len(l)} {
			x := l[n]
			if x.clear {
				w.cache.Clear()
				clear(w.has)
				continue
			}
			w.putOnly(x.p, credOf(i, x.end), x.now)
		}
		w.wantAll("script " + strconv.Itoa(script))
	}
}

// P11.1, W2: scripts of many calls, on two Caches in turn, against the model:
// what is done with the one changes nothing in the other.
func TestRandomScripts(t *testing.T) {
	rnd := rand.New(rand.NewSource(110))
	for round := range 200 {
		l := []*watch{watched(t), watched(t)}
		count, width := 1+rnd.Intn(12), 1+rnd.Intn(40)
		for step := range 120 {
			w, other := l[0], l[1]
			if rnd.Intn(2) == 0 {
				w, other = other, w
			}
			w.anyCall(rnd, fits()[:count], step, width, round%2 == 0)
			other.wantLen("a call of another Cache")
		}
		l[0].wantAll("all")
		l[1].wantAll("all")
	}
}

// anyCall is a call of any kind, at about the step's time; loud ones are looked
// at from all sides.
func (w *watch) anyCall(rnd *rand.Rand, l []api.Princ, step, width int, loud bool) {
	w.t.Helper()
	p, now := l[rnd.Intn(len(l))], step+rnd.Intn(width)-width/2
	x := credOf(rnd.Intn(200), now+rnd.Intn(2*width)-width/3)
	switch n := rnd.Intn(20); {
	case n == 0 && rnd.Intn(3) == 0:
		w.clear()
	case n < 12 && loud:
		w.put(p, x, now)
	case n < 12:
		w.putOnly(p, x, now)
	case n < 13:
		w.putOnly(p, x, numbers()[rnd.Intn(len(numbers()))])
	case n < 14:
		w.get(p, numbers()[rnd.Intn(len(numbers()))])
	default:
		w.get(p, now)
	}
	w.wantLen("a call")
}

// P11.1: two Caches have nothing in common.
func TestTwoCaches(t *testing.T) {
	v, w := full(t), watched(t)
	for i := range 10 {
		w.put(fits()[i], credOf(50+i, 200), 0)
		v.wantAll("Put to another Cache")
	}
	v.put(fits()[10], credOf(10, 300), 0)
	v.put(fits()[10], credOf(10, 300), 150)
	w.wantAll("Put to another Cache")
	v.clear()
	w.wantAll("Clear of another Cache")
	w.put(web, credOf(1, 300), 201)
	v.wantAll("Put to another Cache")
}

// P11.2: of a nil Cache Put answers ErrFull, all else nothing.
func TestNilCache(t *testing.T) {
	var c *cache.Cache
	for range 2 {
		for _, p := range append(fits(), princ("", ""), princ("a", "B")) {
			for _, now := range numbers() {
				wantPut(t, c, p, credOf(1, 50), now, api.ErrFull)
				wantPut(t, c, p, api.Cred{}, now, api.ErrFull)
				wantNone(t, c, p, now)
				wantLen(t, c, 0)
			}
		}
		c.Clear()
	}
	if c != nil {
		t.Error("a nil Cache became one")
	}
}

// W1, W8: a Cache that New didn't make has nothing, and one that was copied goes
// on with what it has.
func TestOtherCaches(t *testing.T) {
	var c cache.Cache
	wantNone(t, &c, web, 0)
	wantLen(t, &c, 0)
	c.Clear()
	wantPut(t, &c, web, credOf(1, 50), 0, api.OK)
	wantPut(t, &c, own, credOf(2, 60), 0, api.OK)
	d := c
	wantPut(t, &d, fits()[3], credOf(3, 70), 55, api.OK)
	wantLen(t, &d, 2)
	wantNone(t, &d, web, 0)
	wantCred(t, &d, own, 0, credOf(2, 60))
	wantCred(t, &d, fits()[3], 0, credOf(3, 70))
}

// turning is a text of bytes that can be turned.
func turning(s string) (string, []byte) {
	b := []byte(s)
	return unsafe.String(unsafe.SliceData(b), len(b)), b
}

// turn makes other bytes of all of them.
func turn(l ...[]byte) {
	for _, b := range l {
		for i := range b {
			b[i] ^= 0x55
		}
	}
}

// P11.2: what is handed in is neither changed nor kept: the ticket's bytes, the
// room ahead of them and behind, the texts; of Puts that are done, of Puts that
// err, of Gets.
func TestNothingHandedInIsKept(t *testing.T) {
	const around = "ahead of it, the bytes, and what is behind it"
	for _, there := range []int{0, 1, 9, 10} {
		w := watched(t)
		for i := range there {
			w.put(fits()[i], credOf(i, 100), 0)
		}
		for _, p := range []api.Princ{fits()[0], fits()[11]} {
			realm, a := turning(p.Realm)
			name, b := turning(p.Name)
			service, c := turning("EDU")
			of, d := turning("krbtgt/A.EDU")
			room := []byte(around)
			x := api.Cred{Ticket: api.Ticket{Server: princ(service, of), Kvno: 3, Blob: room[13:22]}, Session: api.Key{1, 2, 3}, End: 90}
			want := copied(x)
			want.Ticket.Server = princ("EDU", "krbtgt/A.EDU")
			has, wantErr := w.modelPut(p, want, 0)
			wantPut(t, w.cache, princ(realm, name), x, 0, wantErr)
			for _, now := range []int{90, 91} {
				w.cache.Get(princ(realm, name), now)
			}
			if string(room) != around || realm != p.Realm || name != p.Name || x.Ticket.Server != want.Ticket.Server {
				t.Fatalf("what was handed in became %q, %q, %q, %s", room, realm, name, text(x.Ticket.Server))
			}
			w.has = has
			turn(room, a, b, c, d)
			w.wantAll("bytes that were turned")
		}
	}
}

// overlap tells whether two rows have memory in common, their spare room too.
func overlap(a, b []byte) bool {
	if cap(a) == 0 || cap(b) == 0 {
		return false
	}
	p, q := uintptr(unsafe.Pointer(unsafe.SliceData(a))), uintptr(unsafe.Pointer(unsafe.SliceData(b)))
	return p < q+uintptr(cap(b)) && q < p+uintptr(cap(a))
}

// rows are all of a Cred that could be shared.
func rows(x api.Cred) [][]byte {
	return [][]byte{
		x.Ticket.Blob,
		unsafe.Slice(unsafe.StringData(x.Ticket.Server.Realm), len(x.Ticket.Server.Realm)),
		unsafe.Slice(unsafe.StringData(x.Ticket.Server.Name), len(x.Ticket.Server.Name)),
	}
}

// P11.2: each answer is new memory: it shares none with what was handed in, with
// other answers, nor with what is kept, not even spare room.
func TestAnswersAreNewMemory(t *testing.T) {
	for _, size := range []int{1, 3, 8, 9, 31, 33, 100, 800, 5000} {
		c := cache.New()
		x := credOf(1, 50)
		x.Ticket.Blob = slices.Repeat([]byte{7}, size)
		want := copied(x)
		wantPut(t, c, web, x, 0, api.OK)
		given := [][]byte{}
		given = append(given, rows(x)...)
		for range 5 {
			y, ok := c.Get(web, 50)
			if !ok || !same(y, want) {
				t.Fatalf("behind turned answers Get is %s, %v", show(y), ok)
			}
			for _, a := range rows(y) {
				for _, b := range given {
					if overlap(a, b) {
						t.Errorf("of %d bytes Get answers memory that was there: %q", size, b)
					}
				}
			}
			given = append(given, rows(y)...)
			turn(y.Ticket.Blob[:cap(y.Ticket.Blob)])
			y.Session[0]++
			y.Ticket.Kvno++
		}
		turn(x.Ticket.Blob)
		wantCred(t, c, web, 50, want)
	}
}

// P11.2: what Get answered can be Put again, and is another one then.
func TestAnswersThatArePutAgain(t *testing.T) {
	w := watched(t)
	w.put(web, credOf(1, 50), 0)
	x, _ := w.cache.Get(web, 0)
	w.put(own, x, 0)
	w.put(web, x, 0)
	turn(x.Ticket.Blob[:cap(x.Ticket.Blob)])
	w.wantAll("a turned answer")
	y, _ := w.cache.Get(web, 0)
	turn(y.Ticket.Blob[:cap(y.Ticket.Blob)])
	w.wantAll("a turned answer")
	w.put(web, credOf(2, 60), 0)
	w.wantAll("Put of another one")
}

// P11.2, W7: what Get answered stays what it is, whatever is called later.
func TestAnswersStay(t *testing.T) {
	w := watched(t)
	type answer struct{ got, was api.Cred }
	var l []answer
	rnd := rand.New(rand.NewSource(111))
	for step := range 600 {
		p := fits()[rnd.Intn(12)]
		switch n := rnd.Intn(30); {
		case n == 0:
			w.clear()
		case n < 15:
			w.putOnly(p, credOf(step%200, step+rnd.Intn(20)), step)
		default:
			if x, ok := w.cache.Get(p, step); ok {
				was := copied(x)
				was.Ticket.Server = princ(strings.Clone(x.Ticket.Server.Realm), strings.Clone(x.Ticket.Server.Name))
				l = append(l, answer{x, was})
			}
		}
		for _, a := range l {
			if !same(a.got, a.was) {
				t.Fatalf("behind step %d what was %s is %s", step, show(a.was), show(a.got))
			}
		}
	}
	if len(l) < 50 {
		t.Errorf("only %d answers were looked at", len(l))
	}
}

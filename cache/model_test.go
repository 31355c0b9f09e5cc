package cache_test

import (
	"bytes"
	"math"
	"slices"
	"strconv"
	"testing"

	"legate/api"
	"legate/cache"
)

func princ(realm, name string) api.Princ { return api.Princ{Realm: realm, Name: name} }

// fits are a dozen principals, all unlike: more than a Cache has room for.
func fits() []api.Princ {
	l := []api.Princ{princ("A.EDU", "krbtgt/A.EDU"), princ("A.EDU", "krbtgt/EDU"), princ("EDU", "krbtgt/B.EDU"), princ("/COM/HP", "web")}
	for i := range 8 {
		l = append(l, princ("B.EDU", "svc"+strconv.Itoa(i)))
	}
	return l
}

// credOf is a Cred with that End, unlike those of other numbers in each field.
func credOf(n, end int) api.Cred {
	var k api.Key
	for i := range k {
		k[i] = byte(n + i)
	}
	server := princ("B.EDU", "t"+strconv.Itoa(n))
	return api.Cred{Ticket: api.Ticket{Server: server, Kvno: n + 1, Blob: []byte("blob " + strconv.Itoa(n))}, Session: k, End: end}
}

// copied is a Cred with a Blob of its own.
func copied(x api.Cred) api.Cred {
	x.Ticket.Blob = slices.Clone(x.Ticket.Blob)
	return x
}

func same(a, b api.Cred) bool {
	return a.Ticket.Server == b.Ticket.Server && a.Ticket.Kvno == b.Ticket.Kvno && bytes.Equal(a.Ticket.Blob, b.Ticket.Blob) &&
		a.Session == b.Session && a.End == b.End
}

// text is a principal, short enough to be read.
func text(p api.Princ) string {
	s := strconv.QuoteToASCII(p.Realm) + " " + strconv.QuoteToASCII(p.Name)
	return s[:min(len(s), 100)]
}

func show(x api.Cred) string {
	return text(x.Ticket.Server) + " " + strconv.Itoa(x.Ticket.Kvno) + " " + strconv.QuoteToASCII(string(x.Ticket.Blob[:min(len(x.Ticket.Blob), 50)])) + " to " + strconv.Itoa(x.End)
}

// numbers are some of now and of End, the least and the greatest among them.
func numbers() []int {
	return []int{
		math.MinInt, math.MinInt + 1, -1 << 32, -1 << 31, -1 << 30, -2, -1, 0, 1, 2, 5,
		1<<30 - 1, 1 << 30, 1<<30 + 1, 1 << 31, 1 << 32, 1<<32 + 1, math.MaxInt - 1, math.MaxInt,
	}
}

// A watch is a Cache, and what has to be in it: the model.
type watch struct {
	t     *testing.T
	cache *cache.Cache
	has   map[api.Princ]api.Cred
	named map[api.Princ]int
}

func watched(t *testing.T) *watch {
	t.Helper()
	w := &watch{t: t, cache: cache.New(), has: map[api.Princ]api.Cred{}, named: map[api.Princ]int{}}
	for _, p := range fits() {
		w.named[p]++
	}
	w.wantAll("New")
	return w
}

// full is a watch of ten that have those Ends, one behind the other, as far as
// there are some, and 100 from there on.
func full(t *testing.T, ends ...int) *watch {
	t.Helper()
	w := watched(t)
	for i := range 10 {
		end := 100
		if i < len(ends) {
			end = ends[i]
		}
		w.put(fits()[i], credOf(i, end), -1000)
	}
	if w.cache.Len() != 10 {
		t.Fatalf("ten that were Put are %d", w.cache.Len())
	}
	return w
}

// modelPut is what the document says of Put: the error, and what is there then.
func (w *watch) modelPut(p api.Princ, x api.Cred, now int) (map[api.Princ]api.Cred, api.Errno) {
	left := map[api.Princ]api.Cred{}
	for q, y := range w.has {
		if y.End >= now {
			left[q] = y
		}
	}
	if _, had := left[p]; !had && len(left) == 10 {
		return w.has, api.ErrFull
	}
	left[p] = copied(x)
	return left, api.OK
}

// put wants what the document says of Put, and that all is there behind it.
func (w *watch) put(p api.Princ, x api.Cred, now int) api.Errno {
	w.t.Helper()
	err := w.putOnly(p, x, now)
	w.wantAll("Put(" + text(p) + ", " + show(x) + ", " + strconv.Itoa(now) + "), which is " + strconv.Itoa(int(err)))
	return err
}

// putOnly asks for nothing behind it, so that no Get can mend what Put left.
func (w *watch) putOnly(p api.Princ, x api.Cred, now int) api.Errno {
	w.t.Helper()
	w.named[p]++
	has, want := w.modelPut(p, x, now)
	err := w.cache.Put(p, x, now)
	if err != want {
		w.t.Fatalf("Put(%s, %s, %d) is %v, not %v", text(p), show(x), now, err, want)
	}
	w.has = has
	return err
}

// get wants what the document says of Get.
func (w *watch) get(p api.Princ, now int) {
	w.t.Helper()
	want, ok := w.has[p]
	if !ok || want.End < now {
		want, ok = api.Cred{}, false
	}
	x, got := w.cache.Get(p, now)
	if got != ok || !same(x, want) {
		w.t.Errorf("Get(%s, %d) is %s, %v, not %s, %v", text(p), now, show(x), got, show(want), ok)
	}
}

func (w *watch) clear() {
	w.t.Helper()
	w.cache.Clear()
	w.has = map[api.Princ]api.Cred{}
	w.wantAll("Clear")
}

// wantAll wants all that is there, at each time that could tell, and nothing of
// those who have nothing; and that no Get changes that.
func (w *watch) wantAll(behind string) {
	w.t.Helper()
	w.wantLen(behind)
	for p := range w.named {
		x, ok := w.has[p]
		for _, now := range []int{math.MinInt, 0, math.MaxInt} {
			w.get(p, now)
		}
		if !ok {
			continue
		}
		// The last of these is a time at which it hasn't ended.
		w.get(p, x.End)
		if x.End < math.MaxInt {
			w.get(p, x.End+1)
		}
		if x.End > math.MinInt {
			w.get(p, x.End-1)
		}
		w.get(p, x.End)
	}
	w.wantLen(behind + " and Gets")
	if w.t.Failed() {
		w.t.Fatalf("that was behind %s", behind)
	}
}

func (w *watch) wantLen(behind string) {
	w.t.Helper()
	if n := w.cache.Len(); n != len(w.has) {
		w.t.Errorf("behind %s Len is %d, not %d", behind, n, len(w.has))
	}
}

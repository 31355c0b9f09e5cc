package acceptor_test

import (
	"bytes"
	"fmt"
	"reflect"
	"slices"
	"strconv"
	"strings"
	"testing"

	"legate/acceptor"
	"legate/api"
	"legate/msg"
	"legate/ring"
	"legate/seal"
	"legate/transit"
)

// keyOf is a key of two unlike halves, another one for each number.
func keyOf(n int) api.Key {
	var k api.Key
	for i := range k {
		k[i] = byte(5*i) ^ byte(n>>(8*(i%4)))
	}
	return k
}

func princ(realm, name string) api.Princ { return api.Princ{Realm: realm, Name: name} }

// show is anything in a few signs that can be read.
func show(x any) string {
	s := strconv.QuoteToASCII(fmt.Sprintf("%+v", x))
	return s[:min(len(s), 900)]
}

// mustBytes is what is encoded or sealed: the tests' own is such as may be.
func mustBytes(b []byte, err api.Errno) []byte {
	if err != api.OK {
		panic(err)
	}
	return b
}

// A plan is a request of a service, from what its parts are made of: so it is
// known what is wrong with it.
type plan struct {
	now int
	raw []byte // what is handed in in place of a request

	server api.Princ // the ticket's, and its number
	kvno   int
	lock   api.Key // what the ticket is sealed with
	use    int
	part   api.Part
	inner  []byte // what is sealed in place of the part
	blob   []byte // what stands in place of what is sealed
	// What the authenticator is sealed with, likewise.
	holder    api.Key
	authUse   int
	authn     api.Authn
	authInner []byte
	authBlob  []byte
}

// request is the request of a plan. A nonce of a seal may be any.
func (p plan) request() api.ApReq {
	q := api.ApReq{Ticket: api.Ticket{Server: p.server, Kvno: p.kvno, Blob: p.blob}, Authn: p.authBlob}
	if p.blob == nil {
		inner := p.inner
		if inner == nil {
			inner = mustBytes(msg.EncodePart(p.part))
		}
		q.Ticket.Blob = mustBytes(seal.New(p.lock).Seal(p.use, 77, inner))
	}
	if p.authBlob == nil {
		inner := p.authInner
		if inner == nil {
			inner = mustBytes(msg.EncodeAuthn(p.authn))
		}
		q.Authn = mustBytes(seal.New(p.holder).Seal(p.authUse, 78, inner))
	}
	return q
}

// bytes is what is handed in. ApReq is the fourth kind.
func (p plan) bytes() []byte {
	if p.raw != nil {
		return p.raw
	}
	return mustBytes(msg.Encode(api.Msg{Kind: 4, ApReq: p.request()}))
}

// client makes the ticket one of another client, and the authenticator, too, if it
// was of the ticket's.
func (p *plan) client(c api.Princ) {
	if p.authn.Client == p.part.Client {
		p.authn.Client = c
	}
	p.part.Client = c
}

// A held is a key that is in the Ring, and what its Box's Counts have to be.
type held struct {
	p                       api.Princ
	kvno                    int
	key                     api.Key
	box                     *seal.Box
	sealed, opened, refused int
}

// A watch is an Acceptor, and all that is known of it: the model. Of what was seen
// it takes nothing away.
type watch struct {
	t        *testing.T
	acceptor *acceptor.Acceptor
	ring     *ring.Ring
	princ    api.Princ
	realms   []string
	ways     map[string][]string // what may be passed, by the clients' realms, as the test has worked it out
	keys     []*held
	accepted int
	refused  int

	began []int // at what times, the last one counts
	seen  []api.Authn
	asked int // the last time at which those that are old went
	ever  map[api.Authn]int
	done  []string // what was done
}

// watched is an Acceptor of p with a Ring of its own: a key for each principal, in
// order, the first one keyOf(1).
func watched(t *testing.T, p api.Princ, topo api.Topo, ways map[string][]string, now int, princs ...api.Princ) *watch {
	t.Helper()
	w := &watch{t: t, ring: ring.New(), princ: p, realms: topo.Realms, ways: ways, ever: map[api.Authn]int{}}
	for _, q := range princs {
		w.add(q)
	}
	w.begin(topo, now)
	return w
}

// begin is a New Acceptor, of the Ring that is there.
func (w *watch) begin(topo api.Topo, now int) {
	w.t.Helper()
	w.acceptor = newAcceptor(w.t, w.princ, topo, w.ring, now)
	if now != 0 {
		w.began = []int{now}
	}
	w.did("New", now)
	w.wantAll()
}

func newAcceptor(t *testing.T, p api.Princ, topo api.Topo, r *ring.Ring, now int) *acceptor.Acceptor {
	t.Helper()
	a, err := acceptor.New(p, topo, r, now)
	if a == nil || err != api.OK {
		t.Fatalf("New of %s is %v, %v", show(p), a, err)
	}
	return a
}

func (w *watch) add(p api.Princ) *held {
	w.t.Helper()
	h := &held{p: p, key: keyOf(len(w.keys) + 1)}
	n, err := w.ring.Add(p, h.key)
	if err != api.OK {
		w.t.Fatalf("Add of %s is %v", show(p), err)
	}
	h.kvno = n
	h.box, _ = w.ring.Box(p, n)
	w.keys = append(w.keys, h)
	return h
}

// at is the key of that number, or nil.
func (w *watch) at(p api.Princ, kvno int) *held {
	for _, h := range w.keys {
		if h.p == p && h.kvno == kvno {
			return h
		}
	}
	return nil
}

// wantAll wants Counts, and those of all keys' Boxes, however often they are asked.
func (w *watch) wantAll() {
	w.t.Helper()
	for range 2 {
		if a, r := w.acceptor.Counts(); a != w.accepted || r != w.refused {
			w.t.Fatalf("%s: Counts are %d, %d, not %d, %d", w.story(), a, r, w.accepted, w.refused)
		}
	}
	for _, h := range w.keys {
		if a, b, c := h.box.Counts(); a != h.sealed || b != h.opened || c != h.refused {
			w.t.Fatalf("%s: Counts of %s, %d are %d, %d, %d, not %d, %d, %d", w.story(), show(h.p), h.kvno, a, b, c, h.sealed, h.opened, h.refused)
		}
	}
}

// tagged tells whether what one of two keys sealed opens with the other: the tag
// is by their second halves. With unlike first halves it opens as other bytes,
// which are nothing.
func tagged(a, b api.Key) bool { return bytes.Equal(a[16:], b[16:]) }

// A check is an error, and whether it applies, once those ahead of it don't.
type check struct {
	err api.Errno
	bad func() bool
}

// The places of some of the checks: a key is known, the ticket opens, and whether
// it was seen, which is asked last.
const (
	placeKey  = 3
	placeOpen = 4
	placeSee  = 14
)

// errs is what the document says of Take that errs, in its order, and at which
// place.
func (w *watch) errs(p plan) (int, api.Errno) {
	passed, noList := transit.Expand(p.part.Transited, p.part.Client.Realm, w.princ.Realm)
	unseen := w.modelSee(p.authn, p.now)
	for i, c := range []check{
		{api.ErrArg, func() bool { return p.now < 0 || p.now > 1073741824 }},
		{api.ErrForm, func() bool { return p.raw != nil }},
		{api.ErrMatch, func() bool { return p.server != w.princ }},
		{api.ErrKey, func() bool { return w.at(p.server, p.kvno) == nil }},
		{api.ErrSeal, func() bool { return p.blob != nil || p.use != 2 || !tagged(p.lock, w.at(p.server, p.kvno).key) }},
		{api.ErrForm, func() bool { return p.inner != nil || p.lock != w.at(p.server, p.kvno).key }},
		{api.ErrExpired, func() bool { return p.part.End < p.now }},
		{api.ErrSkew, func() bool { return p.part.Start-p.now > 5 }},
		{api.ErrSeal, func() bool { return p.authBlob != nil || p.authUse != 11 || !tagged(p.holder, p.part.Session) }},
		{api.ErrForm, func() bool { return p.authInner != nil || p.holder != p.part.Session }},
		{api.ErrMatch, func() bool { return p.authn.Client != p.part.Client }},
		{noList, func() bool { return noList != api.OK }},
		{api.ErrArg, func() bool { return !slices.Contains(w.realms, p.part.Client.Realm) }},
		{api.ErrPolicy, func() bool { return !within(passed, w.ways[p.part.Client.Realm]) }},
		{unseen, func() bool { return unseen != api.OK }},
	} {
		if c.bad() {
			return i, c.err
		}
	}
	return placeSee + 1, api.OK
}

// within tells whether all of l may be.
func within(l, may []string) bool {
	for _, r := range l {
		if !slices.Contains(may, r) {
			return false
		}
	}
	return true
}

// there are those that were seen, and haven't grown old at any time that was asked
// at, nor at now.
func (w *watch) there(now int) []api.Authn {
	var l []api.Authn
	for _, a := range w.seen {
		if max(w.asked, now)-a.Time <= 5 {
			l = append(l, a)
		}
	}
	return l
}

// modelSee is what chapter 13 says of See; it changes nothing.
func (w *watch) modelSee(a api.Authn, now int) api.Errno {
	if a.Time-now > 5 || now-a.Time > 5 {
		return api.ErrSkew
	}
	if n := len(w.began); n > 0 && a.Time <= w.began[n-1]+5 {
		return api.ErrSkew
	}
	l := w.there(now)
	if slices.Contains(l, a) {
		return api.ErrReplay
	}
	if len(l) >= 8 {
		return api.ErrFull
	}
	return api.OK
}

// modelTake is what Take has to answer; Counts are what they have to be behind it.
func (w *watch) modelTake(p plan) (api.Accept, api.Errno) {
	at, err := w.errs(p)
	if at == placeOpen {
		w.at(p.server, p.kvno).refused++
	}
	if at > placeOpen {
		w.at(p.server, p.kvno).opened++
	}
	if at >= placeSee && err != api.ErrSkew {
		w.asked = p.now
	}
	if err != api.OK {
		w.refused++
		return api.Accept{}, err
	}
	w.accepted++
	w.seen = append(w.seen, p.authn)
	w.ever[p.authn]++
	passed, _ := transit.Expand(p.part.Transited, p.part.Client.Realm, w.princ.Realm)
	return api.Accept{Client: p.part.Client, Server: w.princ, Session: p.part.Session, Transited: passed, Time: p.authn.Time, Seq: p.authn.Seq}, api.OK
}

// take wants what the model says, and that nothing is accepted twice.
func (w *watch) take(p plan) (api.Accept, api.Errno) {
	w.t.Helper()
	b := p.bytes()
	want, wantErr := w.modelTake(p)
	x, err := w.acceptor.Take(b, p.now)
	w.did("Take", p.now)
	if err != wantErr || !sameAccept(x, want) {
		w.t.Fatalf("%s of %s is %s, %v, not %s, %v", w.story(), show(p), show(x), err, show(want), wantErr)
	}
	if n := w.ever[p.authn]; n > 1 {
		w.t.Fatalf("%s: %s was accepted %d times", w.story(), show(p.authn), n)
	}
	w.wantAll()
	return x, err
}

func (w *watch) did(what string, now int) {
	w.done = append(w.done, what+" at "+strconv.Itoa(now))
}

// story is what was done last.
func (w *watch) story() string {
	return strings.Join(w.done[max(0, len(w.done)-12):], "; ")
}

// sameAccept takes a nil list and an empty one as the same.
func sameAccept(a, b api.Accept) bool {
	if len(a.Transited) == 0 && len(b.Transited) == 0 {
		a.Transited, b.Transited = nil, nil
	}
	return reflect.DeepEqual(a, b)
}

// want is take, where it is told what comes of it.
func (w *watch) want(p plan, want api.Errno, of string) api.Accept {
	w.t.Helper()
	x, err := w.take(p)
	if err != want {
		w.t.Fatalf("%s of %s is %v, not %v", w.story(), of, err, want)
	}
	return x
}

func (w *watch) restart(now int) {
	w.t.Helper()
	w.acceptor.Restart(now)
	w.did("Restart", now)
	w.began, w.seen, w.asked = append(w.began, now), nil, 0
	w.wantAll()
}

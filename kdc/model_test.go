package kdc_test

import (
	"bytes"
	"fmt"
	"reflect"
	"regexp"
	"strconv"
	"testing"

	"legate/api"
	"legate/kdc"
	"legate/msg"
	"legate/ring"
	"legate/seal"
	"legate/transit"
)

// keyOf is a key of two unlike halves, another one for each number.
func keyOf(n int) api.Key {
	var k api.Key
	for i := range k {
		k[i] = byte(3*i) + byte(n>>(8*(i%4)))
	}
	return k
}

func princ(realm, name string) api.Princ { return api.Princ{Realm: realm, Name: name} }

// show is anything in a few signs that can be read.
func show(x any) string {
	s := strconv.QuoteToASCII(fmt.Sprintf("%+v", x))
	return s[:min(len(s), 900)]
}

// mustBytes is what is encoded or sealed: the tests' own is such as may be.
func mustBytes(b []byte, err api.Errno) []byte {
	if err != api.OK {
		panic(err)
	}
	return b
}

// sealed is bytes that a key sealed, apart from any Kdc.
func sealed(k api.Key, usage, nonce int, p []byte) []byte {
	return mustBytes(seal.New(k).Seal(usage, nonce, p))
}

// What may be, by patterns.

var (
	realmPattern = regexp.MustCompile(`^([A-Z]{1,8}(\.[A-Z]{1,8}){0,3}|(/[A-Z]{1,8}){1,4})$`)
	namePattern  = regexp.MustCompile(`^([a-z0-9]{1,8}|krbtgt/([A-Z]{1,8}(\.[A-Z]{1,8}){0,3}|(/[A-Z]{1,8}){1,4}))$`)
)

func fitPrinc(p api.Princ) bool {
	return realmPattern.MatchString(p.Realm) && namePattern.MatchString(p.Name)
}

func fitNumber(n int) bool { return 0 <= n && n <= 1073741824 }

func fitBlob(b []byte) bool { return 1 <= len(b) && len(b) <= 800 }

// A plan is a request with a ticket, from what its parts are made of: so it is
// known what is wrong with it.
type plan struct {
	now  int
	draw api.Key

	shown  api.Princ // the ticket's Server, and number
	kvno   int
	lock   api.Key // what the ticket is sealed with
	use    int
	part   api.Part
	inner  []byte // what is sealed in place of the part
	blob   []byte // what stands in place of what is sealed
	holder api.Key
	// What the authenticator is sealed with, likewise.
	authUse   int
	authn     api.Authn
	authInner []byte
	authBlob  []byte

	target api.Princ
	till   int
	nonce  int
}

// request is the request of a plan. A nonce of a seal may be any.
func (p plan) request() api.TgsReq {
	inner, authInner := p.inner, p.authInner
	if inner == nil {
		inner = mustBytes(msg.EncodePart(p.part))
	}
	if authInner == nil {
		authInner = mustBytes(msg.EncodeAuthn(p.authn))
	}
	blob, authBlob := p.blob, p.authBlob
	if blob == nil {
		blob = sealed(p.lock, p.use, 77, inner)
	}
	if authBlob == nil {
		authBlob = sealed(p.holder, p.authUse, 78, authInner)
	}
	t := api.Ticket{Server: p.shown, Kvno: p.kvno, Blob: blob}
	return api.TgsReq{Ticket: t, Authn: authBlob, Server: p.target, Till: p.till, Nonce: p.nonce}
}

// A held is a key that is in the Ring, and what its Box's Counts have to be.
type held struct {
	p                       api.Princ
	kvno                    int
	key                     api.Key
	box                     *seal.Box
	sealed, opened, refused int
}

// A watch is a Kdc, and all that is known of it.
type watch struct {
	t      *testing.T
	kdc    *kdc.Kdc
	ring   *ring.Ring
	realm  string
	topo   api.Topo
	next   map[string]string // by a target's realm, as the test has worked it out
	keys   []*held
	nonces int
	issued int
}

// watched is a Kdc with a Ring of its own: a key for each principal, in order,
// the first one keyOf(1).
func watched(t *testing.T, realm string, topo api.Topo, next map[string]string, princs ...api.Princ) *watch {
	t.Helper()
	w := &watch{t: t, ring: ring.New(), realm: realm, topo: topo, next: next}
	for _, p := range princs {
		w.add(p)
	}
	w.kdc = newKdc(t, realm, topo, w.ring)
	w.wantAll("New")
	return w
}

func newKdc(t *testing.T, realm string, topo api.Topo, r *ring.Ring) *kdc.Kdc {
	t.Helper()
	k, err := kdc.New(realm, topo, r)
	if k == nil || err != api.OK {
		t.Fatalf("New of %s is %v, %v", show(realm), k, err)
	}
	return k
}

func (w *watch) add(p api.Princ) *held {
	w.t.Helper()
	h := &held{p: p, key: keyOf(len(w.keys) + 1)}
	n, err := w.ring.Add(p, h.key)
	if err != api.OK {
		w.t.Fatalf("Add of %s is %v", show(p), err)
	}
	h.kvno = n
	h.box, _ = w.ring.Box(p, n)
	w.keys = append(w.keys, h)
	return h
}

// last is a principal's last key, or nil.
func (w *watch) last(p api.Princ) *held {
	var last *held
	for _, h := range w.keys {
		if h.p == p {
			last = h
		}
	}
	return last
}

// at is the key of that number, or nil.
func (w *watch) at(p api.Princ, kvno int) *held {
	for _, h := range w.keys {
		if h.p == p && h.kvno == kvno {
			return h
		}
	}
	return nil
}

func (w *watch) krbtgt(realm string) api.Princ { return princ(w.realm, "krbtgt/"+realm) }

func (w *watch) hasRealm(realm string) bool {
	for _, r := range w.topo.Realms {
		if r == realm {
			return true
		}
	}
	return false
}

// wantAll wants Issued, and the Counts of all keys' Boxes.
func (w *watch) wantAll(behind string) {
	w.t.Helper()
	if n := w.kdc.Issued(); n != w.issued {
		w.t.Errorf("behind %s Issued is %d, not %d", behind, n, w.issued)
	}
	for _, h := range w.keys {
		if a, b, c := h.box.Counts(); a != h.sealed || b != h.opened || c != h.refused {
			w.t.Errorf("behind %s Counts of %s, %d are %d, %d, %d, not %d, %d, %d", behind, show(h.p), h.kvno, a, b, c, h.sealed, h.opened, h.refused)
		}
	}
}

// A check is an error, and whether it applies, once those ahead of it don't.
type check struct {
	err api.Errno
	bad func() bool
}

// first is the place of the first check that applies, and its error.
func first(l []check) (int, api.Errno) {
	for i, c := range l {
		if c.bad() {
			return i, c.err
		}
	}
	return len(l), api.OK
}

// asErrs is what the document says of As that errs, in its order.
func (w *watch) asErrs(q api.AsReq, now int) api.Errno {
	_, err := first([]check{
		{api.ErrArg, func() bool {
			return !fitNumber(now) || !fitPrinc(q.Client) || !fitPrinc(q.Server) || !fitNumber(q.Till) || !fitNumber(q.Nonce)
		}},
		{api.ErrClient, func() bool { return q.Client.Realm != w.realm || w.last(q.Client) == nil }},
		{api.ErrServer, func() bool { return q.Server != w.krbtgt(w.realm) || w.last(q.Server) == nil }},
		{api.ErrExpired, func() bool { return q.Till < now }},
	})
	return err
}

// The places of two of tgsErrs's checks: the ticket's key is known, and it opens.
const (
	placeKey  = 2
	placeOpen = 3
)

// tagged tells whether what one of two keys sealed opens with the other: the tag
// is by their second halves. With unlike first halves it opens as other bytes,
// which are nothing.
func tagged(a, b api.Key) bool { return bytes.Equal(a[16:], b[16:]) }

// target is who the ticket is for, and the error that there is none.
func (w *watch) target(p plan) (*held, api.Errno) {
	if p.target.Realm == w.realm {
		if h := w.last(p.target); h != nil {
			return h, api.OK
		}
		return nil, api.ErrServer
	}
	if next, ok := w.next[p.target.Realm]; ok && w.hasRealm(p.target.Realm) {
		if h := w.last(w.krbtgt(next)); h != nil {
			return h, api.OK
		}
	}
	return nil, api.ErrRoute
}

// inserted is Transited, and the error of Insert.
func (w *watch) inserted(p plan) (string, api.Errno) {
	if p.shown.Realm == w.realm || p.shown.Realm == p.part.Client.Realm {
		return p.part.Transited, api.OK
	}
	return transit.Insert(p.part.Transited, p.part.Client.Realm, p.target.Realm, p.shown.Realm)
}

// tgsErrs is what the document says of Tgs that errs, in its order, and at which
// place.
func (w *watch) tgsErrs(p plan) (int, api.Errno) {
	q := p.request()
	_, noTarget := w.target(p)
	transited, noInsert := w.inserted(p)
	return first([]check{
		{api.ErrArg, func() bool {
			return !fitNumber(p.now) || !fitPrinc(q.Ticket.Server) || q.Ticket.Kvno < 1 || q.Ticket.Kvno > 255 || !fitBlob(q.Ticket.Blob) ||
				!fitBlob(q.Authn) || !fitPrinc(q.Server) || !fitNumber(q.Till) || !fitNumber(q.Nonce)
		}},
		{api.ErrServer, func() bool { return p.shown.Name != "krbtgt/"+w.realm }},
		{api.ErrKey, func() bool { return w.at(p.shown, p.kvno) == nil }},
		{api.ErrSeal, func() bool { return p.blob != nil || p.use != 2 || !tagged(p.lock, w.at(p.shown, p.kvno).key) }},
		{api.ErrForm, func() bool { return p.inner != nil || p.lock != w.at(p.shown, p.kvno).key }},
		{api.ErrExpired, func() bool { return p.part.End < p.now }},
		{api.ErrSkew, func() bool { return p.part.Start-p.now > 5 }},
		{api.ErrSeal, func() bool { return p.authBlob != nil || p.authUse != 7 || !tagged(p.holder, p.part.Session) }},
		{api.ErrForm, func() bool { return p.authInner != nil || p.holder != p.part.Session }},
		{api.ErrMatch, func() bool { return p.authn.Client != p.part.Client }},
		{api.ErrSkew, func() bool { return p.authn.Time-p.now > 5 || p.now-p.authn.Time > 5 }},
		{noTarget, func() bool { return noTarget != api.OK }},
		{noInsert, func() bool { return noInsert != api.OK }},
		{api.ErrExpired, func() bool { return p.till < p.now }},
		{api.ErrForm, func() bool { return len(transited) > 300 }},
	})
}

// made is what a Kdc has to answer: it takes two nonces, and the server's Box
// seals the first one.
func (w *watch) made(part api.Part, server *held, nonce int, key api.Key, use int) api.Rep {
	beside := api.RepPart{Session: part.Session, Server: server.p, Start: part.Start, End: part.End, Nonce: nonce}
	t := api.Ticket{Server: server.p, Kvno: server.kvno}
	t.Blob = sealed(server.key, 2, w.nonces+1, mustBytes(msg.EncodePart(part)))
	b := sealed(key, use, w.nonces+2, mustBytes(msg.EncodeRep(beside)))
	server.sealed++
	w.nonces += 2
	w.issued++
	return api.Rep{Client: part.Client, Ticket: t, Blob: b}
}

// modelAs is what As has to answer; Counts are what they have to be behind it.
func (w *watch) modelAs(q api.AsReq, now int, draw api.Key) (api.Rep, api.Errno) {
	if err := w.asErrs(q, now); err != api.OK {
		return api.Rep{}, err
	}
	part := api.Part{Client: q.Client, Session: draw, Start: now, End: now + 1000}
	if q.Till < part.End {
		part.End = q.Till
	}
	client := w.last(q.Client)
	rep := w.made(part, w.last(q.Server), q.Nonce, client.key, 3)
	client.sealed++
	return rep, api.OK
}

// modelTgs is what Tgs has to answer; Counts are what they have to be behind it.
func (w *watch) modelTgs(p plan) (api.Rep, api.Errno) {
	at, err := w.tgsErrs(p)
	if at == placeOpen {
		w.at(p.shown, p.kvno).refused++
	}
	if at > placeOpen {
		w.at(p.shown, p.kvno).opened++
	}
	if err != api.OK {
		return api.Rep{}, err
	}
	part := api.Part{Client: p.part.Client, Session: p.draw, Start: p.now, End: p.part.End}
	if p.till < part.End {
		part.End = p.till
	}
	part.Transited, _ = w.inserted(p)
	target, _ := w.target(p)
	return w.made(part, target, p.nonce, p.part.Session, 8), api.OK
}

// as asks for a first ticket, and wants what the model says, with all its bytes.
func (w *watch) as(q api.AsReq, now int, draw api.Key) (api.Rep, api.Errno) {
	w.t.Helper()
	want, wantErr := w.modelAs(q, now, draw)
	rep, err := w.kdc.As(q, now, draw)
	w.wantRep("As of "+show(q)+" at "+strconv.Itoa(now), rep, err, want, wantErr)
	return rep, err
}

// tgs asks for a further ticket, and wants what the model says.
func (w *watch) tgs(p plan) (api.Rep, api.Errno) {
	w.t.Helper()
	want, wantErr := w.modelTgs(p)
	rep, err := w.kdc.Tgs(p.request(), p.now, p.draw)
	w.wantRep("Tgs of "+show(p), rep, err, want, wantErr)
	return rep, err
}

func (w *watch) wantRep(of string, rep api.Rep, err api.Errno, want api.Rep, wantErr api.Errno) {
	w.t.Helper()
	if err != wantErr || !reflect.DeepEqual(rep, want) {
		w.t.Errorf("%s is %s, %v, not %s, %v", of, show(rep), err, show(want), wantErr)
	}
	w.wantAll(of)
}

// handleAs hands bytes of a request in, and wants the bytes of what the model
// says.
func (w *watch) handleAs(q api.AsReq, now int, draw api.Key) []byte {
	w.t.Helper()
	b := mustBytes(msg.Encode(api.Msg{Kind: 1, AsReq: q}))
	want, wantErr := w.modelAs(q, now, draw)
	return w.handle("Handle of "+show(q), b, now, draw, told(want, wantErr, q.Nonce))
}

func (w *watch) handleTgs(p plan) []byte {
	w.t.Helper()
	b := mustBytes(msg.Encode(api.Msg{Kind: 2, TgsReq: p.request()}))
	want, wantErr := w.modelTgs(p)
	return w.handle("Handle of "+show(p), b, p.now, p.draw, told(want, wantErr, p.nonce))
}

// handle wants those bytes, or none.
func (w *watch) handle(of string, b []byte, now int, draw api.Key, want []byte) []byte {
	w.t.Helper()
	c := w.kdc.Handle(b, now, draw)
	if !bytes.Equal(c, want) {
		w.t.Errorf("%s is %x, not %x", of, c, want)
	}
	w.wantAll(of)
	return c
}

// told is the bytes of an answer, or of an error: Rep is the third kind, Fail
// the fifth.
func told(rep api.Rep, err api.Errno, nonce int) []byte {
	if err != api.OK {
		return mustBytes(msg.Encode(api.Msg{Kind: 5, Fail: api.Fail{Err: err, Nonce: nonce}}))
	}
	return mustBytes(msg.Encode(api.Msg{Kind: 3, Rep: rep}))
}

// opened is what a ticket seals, and what stands beside it.
func opened(t *testing.T, rep api.Rep, server, reader api.Key, use int) (api.Part, api.RepPart) {
	t.Helper()
	b, err := seal.New(server).Open(2, rep.Ticket.Blob)
	part, partErr := msg.DecodePart(b)
	c, besideErr := seal.New(reader).Open(use, rep.Blob)
	beside, repErr := msg.DecodeRep(c)
	if err != api.OK || partErr != api.OK || besideErr != api.OK || repErr != api.OK {
		t.Fatalf("what was sealed opens as %v, %v, %v, %v", err, partErr, besideErr, repErr)
	}
	return part, beside
}

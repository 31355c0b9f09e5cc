package client_test

import (
	"bytes"
	"fmt"
	"math"
	"slices"
	"strconv"
	"strings"
	"testing"

	"legate/api"
	"legate/client"
	"legate/msg"
	"legate/seal"
)

// keyOf is a key of two unlike halves, another one for each number.
func keyOf(n int) api.Key {
	var k api.Key
	for i := range k {
		k[i] = byte(5*i) + byte(n>>(8*(i%4)))
	}
	return k
}

func princ(realm, name string) api.Princ { return api.Princ{Realm: realm, Name: name} }

// show is anything in a few signs that can be read.
func show(x any) string {
	s := strconv.QuoteToASCII(fmt.Sprintf("%+v", x))
	return s[:min(len(s), 700)]
}

// mustBytes is what is encoded or sealed: the tests' own is such as may be.
func mustBytes(b []byte, err api.Errno) []byte {
	if err != api.OK {
		panic(err)
	}
	return b
}

func sealed(k api.Key, usage, nonce int, p []byte) []byte {
	return mustBytes(seal.New(k).Seal(usage, nonce, p))
}

// copied is a Cred with a Blob of its own.
func copied(x api.Cred) api.Cred {
	x.Ticket.Blob = slices.Clone(x.Ticket.Blob)
	return x
}

func same(a, b api.Cred) bool {
	return a.Ticket.Server == b.Ticket.Server && a.Ticket.Kvno == b.Ticket.Kvno && bytes.Equal(a.Ticket.Blob, b.Ticket.Blob) &&
		a.Session == b.Session && a.End == b.End
}

// served is the realm that a name is the server's of. What is handed in with
// such a sign is none, or a realm's.
func served(name string) (string, bool) { return strings.CutPrefix(name, "krbtgt/") }

// A watch is a Client, and all that has to be known of it: the model.
type watch struct {
	t      *testing.T
	client *client.Client
	p      api.Princ
	key    api.Key

	state   int
	err     api.Errno
	sent    int
	target  api.Princ
	visited []string

	// What was counted so far.
	nonces, seals, seqs int

	// The request that is out: its number, and what its answer is sealed with.
	nonce int
	lock  api.Key
	use   int

	has   map[api.Princ]api.Cred
	named map[api.Princ]int
	made  int
	quick bool // nothing is asked behind a call
}

// The client that most tests watch, and whom it asks for.
var (
	joe   = princ("A.EDU", "joe")
	own   = princ("A.EDU", "krbtgt/A.EDU")
	toEdu = princ("A.EDU", "krbtgt/EDU")
	toB   = princ("EDU", "krbtgt/B.EDU")
	web   = princ("B.EDU", "web")
	mail  = princ("A.EDU", "mail")
)

func watched(t *testing.T) *watch {
	t.Helper()
	return watchedOf(t, joe, keyOf(1))
}

func watchedOf(t *testing.T, p api.Princ, k api.Key) *watch {
	t.Helper()
	w := &watch{t: t, p: p, key: k, has: map[api.Princ]api.Cred{}, named: map[api.Princ]int{}}
	for _, q := range []api.Princ{p, w.own(), own, toEdu, toB, web, mail, {}} {
		w.named[q]++
	}
	c, err := client.New(p, k)
	if c == nil || err != api.OK {
		t.Fatalf("New of %s is %t, %v", show(p), c != nil, err)
	}
	w.client = c
	w.wantAll("New")
	return w
}

func (w *watch) own() api.Princ { return princ(w.p.Realm, "krbtgt/"+w.p.Realm) }

// modelPut is what chapter 11 says of Put.
func (w *watch) modelPut(p api.Princ, x api.Cred, now int) api.Errno {
	left := map[api.Princ]api.Cred{}
	for q, y := range w.has {
		if y.End >= now {
			left[q] = y
		}
	}
	if _, had := left[p]; !had && len(left) == 10 {
		return api.ErrFull
	}
	left[p] = copied(x)
	w.has = left
	return api.OK
}

func (w *watch) modelGet(p api.Princ, now int) (api.Cred, bool) {
	x, ok := w.has[p]
	if !ok || x.End < now {
		return api.Cred{}, false
	}
	return x, true
}

func lasts(now int) int {
	if now+1000 > 1073741824 {
		return 1073741824
	}
	return now + 1000
}

func fitTime(now int) bool { return 0 <= now && now <= 1073741824 }

// modelFirst is the request for a first ticket.
func (w *watch) modelFirst(now int) (string, []byte) {
	w.nonces++
	w.sent++
	w.nonce, w.lock, w.use = w.nonces, w.key, 3
	q := api.AsReq{Client: w.p, Server: w.own(), Till: lasts(now), Nonce: w.nonces}
	return w.p.Realm, mustBytes(msg.Encode(api.Msg{Kind: 1, AsReq: q}))
}

// modelFurther is the further request to a realm.
func (w *watch) modelFurther(realm string, x api.Cred, now int) (string, []byte) {
	w.nonces++
	w.sent++
	w.nonce, w.lock, w.use = w.nonces, x.Session, 8
	w.visited = append(w.visited, realm)
	q := api.TgsReq{Ticket: x.Ticket, Authn: w.modelAuthn(x.Session, 7, now, 0), Server: w.target, Till: lasts(now), Nonce: w.nonces}
	return realm, mustBytes(msg.Encode(api.Msg{Kind: 2, TgsReq: q}))
}

func (w *watch) modelAuthn(k api.Key, use, now, seq int) []byte {
	w.seals++
	return sealed(k, use, w.seals, mustBytes(msg.EncodeAuthn(api.Authn{Client: w.p, Time: now, Seq: seq})))
}

// modelChase is what the document says of Chase of a target that may be asked
// for, if fits tells so.
func (w *watch) modelChase(target api.Princ, fits bool, now int) (string, []byte, api.Errno) {
	if w.state == 1 {
		return "", nil, api.ErrState
	}
	if !fits || !fitTime(now) {
		return "", nil, api.ErrArg
	}
	w.state, w.err, w.sent, w.target, w.visited = 1, api.OK, 0, target, nil
	if x, ok := w.modelGet(w.own(), now); ok {
		realm, b := w.modelFurther(w.p.Realm, x, now)
		return realm, b, api.OK
	}
	realm, b := w.modelFirst(now)
	return realm, b, api.OK
}

// modelTake is what the document says of Take.
func (w *watch) modelTake(b []byte, now int) (string, []byte) {
	m, err := msg.Decode(b)
	if w.state != 1 || !fitTime(now) || err != api.OK {
		return "", nil
	}
	if m.Kind == 5 && m.Fail.Nonce == w.nonce {
		w.state, w.err = 3, m.Fail.Err
	}
	if m.Kind != 3 || m.Rep.Client != w.p {
		return "", nil
	}
	beside, sealErr := seal.New(w.lock).Open(w.use, m.Rep.Blob)
	p, formErr := msg.DecodeRep(beside)
	if sealErr != api.OK || formErr != api.OK || p.Nonce != w.nonce || p.Server != m.Rep.Ticket.Server {
		return "", nil
	}
	return w.modelGot(api.Cred{Ticket: m.Rep.Ticket, Session: p.Session, End: p.End}, now)
}

func (w *watch) modelGot(x api.Cred, now int) (string, []byte) {
	server := x.Ticket.Server
	realm, isRealm := served(server.Name)
	fails := api.OK
	if err := w.modelPut(server, x, now); err != api.OK {
		fails = err
	} else if server == w.target {
		w.state = 2
		return "", nil
	} else if !isRealm || w.use == 3 && server != w.own() {
		fails = api.ErrMatch
	} else if slices.Contains(w.visited, realm) {
		fails = api.ErrLoop
	} else if len(w.visited) == 6 {
		fails = api.ErrHops
	}
	if fails != api.OK {
		w.state, w.err = 3, fails
		return "", nil
	}
	return w.modelFurther(realm, x, now)
}

// modelAsk is what the document says of Ask.
func (w *watch) modelAsk(target api.Princ, now int) ([]byte, api.Errno) {
	if !fitTime(now) {
		return nil, api.ErrArg
	}
	x, ok := w.modelGet(target, now)
	if !ok {
		return nil, api.ErrKey
	}
	w.seqs++
	q := api.ApReq{Ticket: x.Ticket, Authn: w.modelAuthn(x.Session, 11, now, w.seqs)}
	return mustBytes(msg.Encode(api.Msg{Kind: 4, ApReq: q})), api.OK
}

// chase wants what the document says of Chase of a target that may be asked for.
func (w *watch) chase(target api.Princ, now int) (string, []byte, api.Errno) {
	w.t.Helper()
	return w.chaseOf(target, true, now)
}

func (w *watch) chaseOf(target api.Princ, fits bool, now int) (string, []byte, api.Errno) {
	w.t.Helper()
	w.named[target]++
	wantRealm, want, wantErr := w.modelChase(target, fits, now)
	realm, b, err := w.client.Chase(target, now)
	of := "Chase(" + show(target) + ", " + strconv.Itoa(now) + ")"
	if realm != wantRealm || !bytes.Equal(b, want) || err != wantErr {
		w.t.Fatalf("%s is %q, %x, %v, not %q, %x, %v", of, realm, b, err, wantRealm, want, wantErr)
	}
	w.wantAll(of)
	return realm, b, err
}

// take wants what the document says of Take.
func (w *watch) take(b []byte, now int) (string, []byte) {
	w.t.Helper()
	if m, err := msg.Decode(b); err == api.OK && m.Kind == 3 {
		w.named[m.Rep.Ticket.Server]++
	}
	wantRealm, want := w.modelTake(b, now)
	realm, c := w.client.Take(b, now)
	of := "Take(" + strconv.QuoteToASCII(string(b[:min(len(b), 200)])) + ", " + strconv.Itoa(now) + ")"
	if realm != wantRealm || !bytes.Equal(c, want) {
		w.t.Fatalf("%s is %q, %x, not %q, %x", of, realm, c, wantRealm, want)
	}
	w.wantAll(of)
	return realm, c
}

// ask wants what the document says of Ask.
func (w *watch) ask(target api.Princ, now int) ([]byte, api.Errno) {
	w.t.Helper()
	w.named[target]++
	want, wantErr := w.modelAsk(target, now)
	b, err := w.client.Ask(target, now)
	of := "Ask(" + show(target) + ", " + strconv.Itoa(now) + ")"
	if !bytes.Equal(b, want) || err != wantErr {
		w.t.Fatalf("%s is %x, %v, not %x, %v", of, b, err, want, wantErr)
	}
	w.wantAll(of)
	return b, err
}

// cred wants what the document says of Cred.
func (w *watch) cred(p api.Princ, now int) (api.Cred, bool) {
	w.t.Helper()
	want, wantOk := w.modelGet(p, now)
	x, ok := w.client.Cred(p, now)
	if ok != wantOk || !same(x, want) {
		w.t.Fatalf("Cred(%s, %d) is %s, %v, not %s, %v", show(p), now, show(x), ok, show(want), wantOk)
	}
	return x, ok
}

// wantAll wants State, and the Creds of all that were named, at each time that
// could tell.
func (w *watch) wantAll(behind string) {
	w.t.Helper()
	if w.quick {
		return
	}
	if state, err, sent := w.client.State(); state != w.state || err != w.err || sent != w.sent {
		w.t.Fatalf("behind %s State is %d, %v, %d, not %d, %v, %d", behind, state, err, sent, w.state, w.err, w.sent)
	}
	for p := range w.named {
		x, ok := w.has[p]
		times := []int{math.MinInt, 0, math.MaxInt}
		if ok {
			times = append(times, x.End-1, x.End, x.End+1)
		}
		for _, now := range times {
			w.cred(p, now)
		}
	}
	if w.t.Failed() {
		w.t.Fatalf("that was behind %s", behind)
	}
}

// wantState wants a State that the test itself has worked out.
func (w *watch) wantState(state int, err api.Errno, sent int) {
	w.t.Helper()
	if s, e, n := w.client.State(); s != state || e != err || n != sent {
		w.t.Fatalf("State is %d, %v, %d, not %d, %v, %d", s, e, n, state, err, sent)
	}
}

// An answer is a Rep, from what its parts are made of.
type answer struct {
	client api.Princ
	ticket api.Ticket
	lock   api.Key // what its part is sealed with
	use    int
	part   api.RepPart
	inner  []byte // what is sealed in place of the part
	blob   []byte // what stands in place of what is sealed
}

// fitting is an answer to the request that is out, with a ticket of that server,
// another one each time.
func (w *watch) fitting(server api.Princ) answer {
	w.made++
	n := w.made
	t := api.Ticket{Server: server, Kvno: 1 + n%255, Blob: []byte("ticket " + strconv.Itoa(n))}
	p := api.RepPart{Session: keyOf(1000 + n), Server: server, Start: 20, End: 500, Nonce: w.nonce}
	return answer{client: w.p, ticket: t, lock: w.lock, use: w.use, part: p}
}

func (a answer) bytes() []byte {
	inner, blob := a.inner, a.blob
	if inner == nil {
		inner = mustBytes(msg.EncodeRep(a.part))
	}
	if blob == nil {
		blob = sealed(a.lock, a.use, 77, inner)
	}
	return mustBytes(msg.Encode(api.Msg{Kind: 3, Rep: api.Rep{Client: a.client, Ticket: a.ticket, Blob: blob}}))
}

// get takes a fitting answer with a ticket that ends then.
func (w *watch) get(server api.Princ, end, now int) (string, []byte) {
	w.t.Helper()
	a := w.fitting(server)
	a.part.End = end
	return w.take(a.bytes(), now)
}

// failed is the bytes of a Fail.
func failed(err api.Errno, nonce int) []byte {
	return mustBytes(msg.Encode(api.Msg{Kind: 5, Fail: api.Fail{Err: err, Nonce: nonce}}))
}

// fail ends a chase that goes with an error.
func (w *watch) fail(err api.Errno, now int) {
	w.t.Helper()
	w.take(failed(err, w.nonce), now)
	if w.state != 3 || w.err != err {
		w.t.Fatalf("the chase has not failed: %d, %v", w.state, w.err)
	}
}

// fetch is a whole chase at a time: the first ticket, if it isn't there, and the
// target's.
func (w *watch) fetch(target api.Princ, end, now int) {
	w.t.Helper()
	w.chase(target, now)
	if w.use == 3 {
		w.get(w.own(), end, now)
	}
	w.get(target, end, now)
	if w.state != 2 {
		w.t.Fatalf("the chase for %s is not done: %d, %v", show(target), w.state, w.err)
	}
}

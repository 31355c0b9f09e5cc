package kdc_test

import (
	"bytes"
	"encoding/binary"
	"math"
	"reflect"
	"slices"
	"strconv"
	"strings"
	"testing"

	"legate/api"
	"legate/kdc"
	"legate/msg"
	"legate/ring"
	"legate/seal"
)

// The realm EDU, whose Kdc most tests ask, and who is known there.

var (
	own     = princ("EDU", "krbtgt/EDU")
	joe     = princ("EDU", "joe")
	web     = princ("EDU", "web")
	fromA   = princ("A.EDU", "krbtgt/EDU")
	fromCom = princ("COM", "krbtgt/EDU")
	toA     = princ("EDU", "krbtgt/A.EDU")
	toCom   = princ("EDU", "krbtgt/COM")
	far     = princ("A.EDU", "joe")
	// A realm that no Topo has, but whose tickets EDU opens.
	long     = "/ABCDEFGH/BCDEFGHI/CDEFGHIJ/DEFGHIJK"
	fromLong = princ(long, "krbtgt/EDU")
	// Who has no key.
	ann    = princ("EDU", "ann")
	toB    = princ("EDU", "krbtgt/B.EDU")
	farOwn = princ("A.EDU", "krbtgt/A.EDU")
	// A client of another realm, which came by COM.
	sue = princ("Q.COM", "sue")
)

func eduTopo() api.Topo {
	return api.Topo{
		Realms: []string{"EDU", "A.EDU", "B.EDU", "COM", "Q.COM", "/HP/LAB"},
		Links: [][2]string{
			{"A.EDU", "EDU"}, {"EDU", "A.EDU"}, {"EDU", "B.EDU"}, {"EDU", "COM"}, {"COM", "EDU"}, {"COM", "Q.COM"}, {"Q.COM", "COM"},
		},
	}
}

// eduNext is the next realm from EDU. B.EDU is next to it, but there is no key
// of it; to /HP/LAB there is no way.
func eduNext() map[string]string {
	return map[string]string{"A.EDU": "A.EDU", "B.EDU": "B.EDU", "COM": "COM", "Q.COM": "COM"}
}

func edu(t *testing.T) *watch {
	t.Helper()
	return watched(t, "EDU", eduTopo(), eduNext(), own, own, joe, joe, web, fromA, fromCom, fromCom, toA, toCom, far, web, fromLong)
}

// Some of edu's keys, by their places.
const (
	keyOwn1 = iota + 1
	keyOwn2
	keyJoe1
	keyJoe2
	keyWeb1
	keyFromA
	keyFromCom1
	keyFromCom2
	keyToA
	keyToCom
	keyFar
	keyWeb2
	keyFromLong
)

// goodAs is a request that is answered, at 100.
func goodAs() api.AsReq { return api.AsReq{Client: joe, Server: own, Till: 400, Nonce: 41} }

// goodPlan is one that is answered: its ticket passed COM.
func goodPlan() plan {
	return plan{
		now: 100, draw: keyOf(500),
		shown: fromCom, kvno: 2, lock: keyOf(keyFromCom2), use: 2,
		part:   api.Part{Client: sue, Session: keyOf(900), Start: 90, End: 600},
		holder: keyOf(900), authUse: 7, authn: api.Authn{Client: sue, Time: 100, Seq: 3},
		target: web, till: 400, nonce: 42,
	}
}

// ofRealm is a plan whose ticket is of EDU itself.
func ofRealm(p plan) plan {
	p.shown, p.kvno, p.lock = own, 2, keyOf(keyOwn2)
	p.part.Client, p.authn.Client = joe, joe
	return p
}

func TestTheExample(t *testing.T) {
	w := edu(t)
	q := goodAs()
	q.Client.Name = "nobody"
	if rep, err := w.as(q, 100, keyOf(500)); err != api.ErrClient || !reflect.DeepEqual(rep, api.Rep{}) {
		t.Errorf("As of an unknown client is %s, %v", show(rep), err)
	}
}

// A fault is what can be wrong with a request: what it changes, in which of its
// fields, and at which place the document names its error.
type fault struct {
	place int
	err   api.Errno
	field string
	name  string
	do    func(p *plan)
}

// unfitPrincs may not be.
func unfitPrincs() []api.Princ {
	return []api.Princ{
		{}, princ("EDU", ""), princ("", "joe"), princ("edu", "joe"), princ("EDU", "Joe"), princ("EDU", "abcdefghi"), princ("ABCDEFGHI", "joe"),
		princ("EDU", "krbtgt/"), princ("EDU", "krbtgt/edu"), princ("", "krbtgt/EDU"), princ("EDU.", "krbtgt/EDU"), princ("EDU", "joe\x00"), princ("EDU\xff", "joe"),
	}
}

// unfitNumbers are none of 0 to MaxTime, which is MaxNonce.
func unfitNumbers() []int {
	return []int{-1, -2, -1 << 30, math.MinInt, 1<<30 + 1, 1 << 31, 1 << 32, 1<<32 + 100, math.MaxInt}
}

// junk is bytes that are none of the kind that f's answer is: other ones of
// api's, no bytes, its own bytes cut, and with one behind.
func junk(of []byte) [][]byte {
	p, a, r := goodPlan(), goodPlan().authn, api.RepPart{Server: web, Nonce: 1}
	l := [][]byte{
		{}, {0}, []byte("joe"), of[1:], of[:len(of)-1], append(slices.Clone(of), 0), append(slices.Clone(of), of...), make([]byte, len(of)), make([]byte, 784),
		mustBytes(msg.EncodePart(p.part)), mustBytes(msg.EncodeAuthn(a)), mustBytes(msg.EncodeRep(r)), mustBytes(msg.Encode(api.Msg{Kind: 5, Fail: api.Fail{Err: 3}})),
	}
	return slices.DeleteFunc(l, func(b []byte) bool { return bytes.Equal(b, of) })
}

// many is a fault for each of l.
func many[T any](place int, err api.Errno, field, name string, l []T, do func(p *plan, x T)) []fault {
	var faults []fault
	for _, x := range l {
		faults = append(faults, fault{place, err, field, name + " " + show(x), func(p *plan) { do(p, x) }})
	}
	return faults
}

// argFaults is all that may not be handed in.
func argFaults() []fault {
	return slices.Concat(
		many(0, api.ErrArg, "now", "now", unfitNumbers(), func(p *plan, n int) { p.now = n }),
		many(0, api.ErrArg, "till", "till", unfitNumbers(), func(p *plan, n int) { p.till = n }),
		many(0, api.ErrArg, "nonce", "nonce", unfitNumbers(), func(p *plan, n int) { p.nonce = n }),
		many(0, api.ErrArg, "kvno", "kvno", append(unfitNumbers(), 0, 256, 257), func(p *plan, n int) { p.kvno = n }),
		many(0, api.ErrArg, "shown", "ticket's server", unfitPrincs(), func(p *plan, x api.Princ) { p.shown = x }),
		many(0, api.ErrArg, "target", "target", unfitPrincs(), func(p *plan, x api.Princ) { p.target = x }),
		many(0, api.ErrArg, "blob", "blob of length", []int{0, 801, 5000}, func(p *plan, n int) { p.blob = make([]byte, n) }),
		many(0, api.ErrArg, "auth blob", "auth blob of length", []int{0, 801, 5000}, func(p *plan, n int) { p.authBlob = make([]byte, n) }),
	)
}

// ticketFaults is all that can be wrong with a ticket.
func ticketFaults() []fault {
	part := mustBytes(msg.EncodePart(goodPlan().part))
	return slices.Concat(
		many(1, api.ErrServer, "shown", "ticket for", []api.Princ{toA, toCom, joe, web, ann, far, toB, farOwn, princ("COM", "krbtgt/COM"), princ("EDU", "krbtgt"), princ("EDU", "edu"), princ("EDU", "krbtgt//EDU")},
			func(p *plan, x api.Princ) { p.shown = x }),
		many(2, api.ErrKey, "kvno", "ticket of number", []int{3, 4, 13, 254, 255}, func(p *plan, n int) { p.kvno = n }),
		many(2, api.ErrKey, "shown", "ticket of", []api.Princ{princ("B.EDU", "krbtgt/EDU"), princ("Q.COM", "krbtgt/EDU"), princ("MIT.EDU", "krbtgt/EDU"), princ("/COM", "krbtgt/EDU"), fromA},
			func(p *plan, x api.Princ) { p.shown = x }),
		many(3, api.ErrSeal, "lock", "ticket sealed with", []int{keyFromCom1, keyOwn2, keyFromA, keyToCom, 0, 99}, func(p *plan, n int) { p.lock = keyOf(n) }),
		many(3, api.ErrSeal, "use", "ticket's usage", []int{0, 1, 3, 7, 8, 11, 255}, func(p *plan, n int) { p.use = n }),
		many(3, api.ErrSeal, "blob", "ticket's blob of length", []int{1, 15, 16, 17, 100, 800}, func(p *plan, n int) { p.blob = bytes.Repeat([]byte{0x30}, n) }),
		many(4, api.ErrForm, "part", "ticket seals", junk(part), func(p *plan, b []byte) { p.inner = b }),
		many(5, api.ErrExpired, "end", "ended at", []int{99, 98, 90, 1, 0}, func(p *plan, n int) { p.part.End = n }),
		many(6, api.ErrSkew, "start", "starts at", []int{106, 107, 600, 1 << 30}, func(p *plan, n int) { p.part.Start = n }),
	)
}

// authnFaults is all that can be wrong with an authenticator.
func authnFaults() []fault {
	authn := mustBytes(msg.EncodeAuthn(goodPlan().authn))
	return slices.Concat(
		many(7, api.ErrSeal, "holder", "authn sealed with", []int{901, 500, keyFromCom2, 0}, func(p *plan, n int) { p.holder = keyOf(n) }),
		many(7, api.ErrSeal, "auth use", "authn's usage", []int{0, 2, 3, 6, 8, 11, 255}, func(p *plan, n int) { p.authUse = n }),
		many(7, api.ErrSeal, "auth blob", "authn's blob of length", []int{1, 15, 16, 17, 100, 800}, func(p *plan, n int) { p.authBlob = bytes.Repeat([]byte{0x30}, n) }),
		many(8, api.ErrForm, "authn", "authn is", junk(authn), func(p *plan, b []byte) { p.authInner = b }),
		many(9, api.ErrMatch, "auth client", "authn of", []api.Princ{joe, princ("Q.COM", "joe"), princ("COM", "sue"), princ("Q.COM", "su"), princ("Q.COM", "suee"), princ("/Q/COM", "sue"), princ("Q.COM", "krbtgt/EDU"), web, fromCom},
			func(p *plan, x api.Princ) { p.authn.Client = x }),
		many(10, api.ErrSkew, "time", "authn's time", []int{0, 90, 93, 94, 106, 107, 200, 1 << 30}, func(p *plan, n int) { p.authn.Time = n }),
	)
}

// lastFaults is all that can be wrong with what is asked for.
func lastFaults() []fault {
	return slices.Concat(
		many(11, api.ErrServer, "target", "target", []api.Princ{ann, princ("EDU", "nobody"), toB, princ("EDU", "krbtgt/Q.COM"), princ("EDU", "krbtgt/MIT.EDU"), princ("EDU", "sue"), princ("EDU", "krbtgt")},
			func(p *plan, x api.Princ) { p.target = x }),
		// B.EDU's key isn't there; to /HP/LAB there is no way; the others are none of
		// the Topo's, though A.EDU and COM would be the next ones, or they'd be known.
		many(11, api.ErrRoute, "target", "target", []api.Princ{
			princ("B.EDU", "web"), princ("/HP/LAB", "web"), princ("X.A.EDU", "web"), princ("B.Q.COM", "web"), princ("X.COM", "web"),
			princ("MIT.EDU", "web"), princ("ORG", "web"), princ("/HP", "web"), princ("X.B.EDU", "web"), princ(long, "krbtgt/EDU"), princ("/EDU", "web"),
		}, func(p *plan, x api.Princ) { p.target = x }),
		many(12, api.ErrForm, "transited", "transited", []string{"MIT.", "a", " EDU", "EDU,mit", "A.EDU,", "EDU ", "EDU..", "/HP/", "EDU,,mit", "ABCDEFGHI", "EDU;COM", "A,B,C,D,E,F,G,H,mit"},
			func(p *plan, s string) { p.part.Transited = s + ",?" }),
		many(12, api.ErrFull, "transited", "transited", []string{"A,B,C,D,E,F,G,H", "A,B,C,D,E,F,G,H,I", "/A,/B,/B,/B,X,,COM.A.B,A,B,C,D,E", "A,B,C,D,E,F,G,H,I,mit"},
			func(p *plan, s string) { p.part.Transited = s }),
		many(13, api.ErrExpired, "till", "till", []int{99, 98, 90, 1, 0}, func(p *plan, n int) { p.till = n }),
		many(14, api.ErrForm, "transited", "too long a transited", []int{1, 2}, func(p *plan, n int) {
			p.shown, p.kvno, p.lock = fromLong, 1, keyOf(keyFromLong)
			p.part.Transited = longTransited(n - 1)
		}),
	)
}

// longTransited is seven realms that are, with long behind, so many bytes more
// than 301.
func longTransited(more int) string {
	l := []string{"/" + strings.Repeat("Z", 7+more) + "/QQQQQQQQ/QQQQQQQQ/QQQQQQQQ"}
	for i := range 6 {
		l = append(l, "/"+strings.Repeat(string(rune('P'+i)), 8)+"/XXXXXXXX/YYYYYYYY/ZZZZZZZZ")
	}
	return strings.Join(l, ", ")
}

func tgsFaults() []fault {
	return slices.Concat(argFaults(), ticketFaults(), authnFaults(), lastFaults())
}

// P10.2: each error, one by one.
func TestTgsErrors(t *testing.T) {
	w := edu(t)
	for _, f := range tgsFaults() {
		p := goodPlan()
		f.do(&p)
		if rep, err := w.tgs(p); err != f.err || !reflect.DeepEqual(rep, api.Rep{}) {
			t.Errorf("Tgs of %s is %s, %v, not %v", f.name, show(rep), err, f.err)
		}
		if at, _ := w.tgsErrs(p); at != f.place {
			t.Errorf("the model has %s at %d, not %d", f.name, at, f.place)
		}
	}
	w.tgs(goodPlan())
	if w.issued != 1 || w.nonces != 2 {
		t.Errorf("behind errors there are %d answers, %d nonces", w.issued, w.nonces)
	}
}

// P10.2: of each two errors that can apply together the one named first.
func TestTgsErrorsTogether(t *testing.T) {
	w := edu(t)
	faults := tgsFaults()
	for _, a := range faults {
		for _, b := range faults {
			if a.place >= b.place || a.field == b.field || b.place == 14 && (a.field == "shown" || a.field == "kvno" || a.field == "lock") {
				continue
			}
			for _, order := range [][2]fault{{a, b}, {b, a}} {
				p := goodPlan()
				order[0].do(&p)
				order[1].do(&p)
				if rep, err := w.tgs(p); err != a.err || !reflect.DeepEqual(rep, api.Rep{}) {
					t.Errorf("Tgs of %s and %s is %s, %v, not %v", a.name, b.name, show(rep), err, a.err)
				}
			}
		}
	}
	// The two that change the same fields as others.
	p := goodPlan()
	p.shown, p.part.Transited, p.till = fromLong, longTransited(1), 99
	p.kvno, p.lock = 1, keyOf(keyFromLong)
	if _, err := w.tgs(p); err != api.ErrExpired {
		t.Errorf("Tgs of a Till below now and too long a Transited is %v", err)
	}
}

// An asFault is likewise one of As.
type asFault struct {
	place int
	err   api.Errno
	field string
	do    func(q *api.AsReq, now *int)
}

func asFaults() []asFault {
	var l []asFault
	add := func(place int, err api.Errno, field string, do func(q *api.AsReq, now *int)) {
		l = append(l, asFault{place, err, field, do})
	}
	for _, n := range unfitNumbers() {
		add(0, api.ErrArg, "now", func(q *api.AsReq, now *int) { *now = n })
		add(0, api.ErrArg, "till", func(q *api.AsReq, now *int) { q.Till = n })
		add(0, api.ErrArg, "nonce", func(q *api.AsReq, now *int) { q.Nonce = n })
	}
	for _, p := range unfitPrincs() {
		add(0, api.ErrArg, "client", func(q *api.AsReq, now *int) { q.Client = p })
		add(0, api.ErrArg, "server", func(q *api.AsReq, now *int) { q.Server = p })
	}
	// The first four have keys, but are of another realm.
	for _, p := range []api.Princ{far, fromA, fromCom, fromLong, ann, toB, princ("EDU", "sue"), sue, princ("/EDU", "joe"), princ("ORG", "joe"), princ("EDU.EDU", "joe")} {
		add(1, api.ErrClient, "client", func(q *api.AsReq, now *int) { q.Client = p })
	}
	for _, p := range []api.Princ{fromA, fromCom, toA, toCom, web, joe, far, toB, ann, farOwn, princ("EDU", "krbtgt"), princ("EDU", "krbtgt//EDU"), princ("/EDU", "krbtgt/EDU"), princ("EDU", "edu")} {
		add(2, api.ErrServer, "server", func(q *api.AsReq, now *int) { q.Server = p })
	}
	for _, n := range []int{99, 98, 1, 0} {
		add(3, api.ErrExpired, "till", func(q *api.AsReq, now *int) { q.Till = n })
	}
	return l
}

// P10.1: each error, one by one, and of each two that can apply together the one
// named first.
func TestAsErrors(t *testing.T) {
	w := edu(t)
	for i, a := range asFaults() {
		q, now := goodAs(), 100
		a.do(&q, &now)
		if rep, err := w.as(q, now, keyOf(500)); err != a.err || !reflect.DeepEqual(rep, api.Rep{}) {
			t.Errorf("As of %s at %d is %s, %v, not %v", show(q), now, show(rep), err, a.err)
		}
		for j, b := range asFaults() {
			if i == j || a.place > b.place || a.field == b.field {
				continue
			}
			q, now := goodAs(), 100
			b.do(&q, &now)
			a.do(&q, &now)
			if rep, err := w.as(q, now, keyOf(500)); err != a.err || !reflect.DeepEqual(rep, api.Rep{}) {
				t.Errorf("As of %s at %d is %s, %v, not %v", show(q), now, show(rep), err, a.err)
			}
		}
	}
	w.as(goodAs(), 100, keyOf(500))
	if w.issued != 1 || w.nonces != 2 {
		t.Errorf("behind errors there are %d answers, %d nonces", w.issued, w.nonces)
	}
}

// P10.1: where the realm's own server has no key, nobody gets a first ticket; a
// key of it in another realm, or of another one's server, is none.
func TestAsWithoutAKey(t *testing.T) {
	for _, there := range [][]api.Princ{{joe}, {joe, toA, fromA, web}, {joe, princ("A.EDU", "krbtgt/EDU"), princ("EDU", "krbtgt")}} {
		w := watched(t, "EDU", eduTopo(), eduNext(), there...)
		if _, err := w.as(goodAs(), 100, keyOf(500)); err != api.ErrServer {
			t.Errorf("As without the server's key is %v", err)
		}
		q := goodAs()
		q.Till = 99
		if _, err := w.as(q, 100, keyOf(500)); err != api.ErrServer {
			t.Errorf("As without the server's key, below now, is %v", err)
		}
		q.Client = ann
		if _, err := w.as(q, 100, keyOf(500)); err != api.ErrClient {
			t.Errorf("As without both keys is %v", err)
		}
	}
	w := watched(t, "EDU", eduTopo(), eduNext())
	if _, err := w.as(goodAs(), 100, keyOf(500)); err != api.ErrClient {
		t.Errorf("As without keys is %v", err)
	}
	if _, err := w.tgs(goodPlan()); err != api.ErrKey {
		t.Errorf("Tgs without keys is %v", err)
	}
}

// unfitTopos may not be, each for another reason; EDU is one of most.
func unfitTopos() []api.Topo {
	return []api.Topo{
		{},
		{Links: [][2]string{{"EDU", "COM"}}},
		{Realms: []string{"EDU", "EDU"}},
		{Realms: []string{"EDU", "edu"}},
		{Realms: []string{"EDU", ""}},
		{Realms: []string{"EDU", "A", "B", "C", "D", "E", "F"}},
		{Realms: []string{"EDU"}, Links: [][2]string{{"EDU", "COM"}}},
		{Realms: []string{"EDU", "COM"}, Links: [][2]string{{"EDU", "EDU"}}},
		{Realms: []string{"EDU", "COM"}, Links: [][2]string{{"EDU", "COM"}, {"EDU", "COM"}}},
		{Realms: []string{"EDU", "COM"}, Paths: []api.Path{{From: "EDU", To: "ORG"}}},
		{Realms: []string{"EDU", "COM"}, Paths: []api.Path{{From: "EDU", To: "EDU"}}},
		{Realms: []string{"EDU", "COM"}, Paths: []api.Path{{From: "EDU", To: "COM"}, {From: "EDU", To: "COM"}}},
		{Realms: []string{"EDU", "COM"}, Paths: []api.Path{{From: "EDU", To: "COM", Via: []string{"COM"}}}},
		{Realms: []string{"EDU", "COM"}, Paths: []api.Path{{From: "EDU", To: "COM", Via: []string{"ORG"}}}},
	}
}

// P10.1: New of a Topo that may not be, of a realm that is none of it, without a
// Ring, and of two and three of these together.
func TestNewErrors(t *testing.T) {
	wantNone := func(realm string, topo api.Topo, r *ring.Ring) {
		t.Helper()
		if k, err := kdc.New(realm, topo, r); k != nil || err != api.ErrArg {
			t.Errorf("New of %s, %s, %t is %v, %v", show(realm), show(topo), r != nil, k, err)
		}
	}
	realms := []string{"", "ORG", "edu", "EDU.", "EDU.EDU", "E", "EDUX", "/EDU", "A", "B", "X.A.EDU", "krbtgt/EDU", "EDU\x00", strings.Repeat("EDU.", 1<<18)}
	for _, r := range []*ring.Ring{ring.New(), nil} {
		for _, topo := range unfitTopos() {
			wantNone("EDU", topo, r)
			for _, realm := range realms {
				wantNone(realm, topo, r)
			}
		}
		for _, realm := range realms {
			wantNone(realm, eduTopo(), r)
			wantNone(realm, api.Topo{Realms: []string{"COM"}}, r)
		}
	}
	for _, realm := range eduTopo().Realms {
		wantNone(realm, eduTopo(), nil)
		newKdc(t, realm, eduTopo(), ring.New())
		newKdc(t, realm, api.Topo{Realms: []string{realm}}, ring.New())
	}
}

// P10.1: each realm of a Topo has its own Kdc, which knows its own people alone.
func TestEachRealm(t *testing.T) {
	realms := eduTopo().Realms
	var all []api.Princ
	for _, r := range realms {
		all = append(all, princ(r, "krbtgt/"+r), princ(r, "joe"))
	}
	for _, r := range realms {
		w := watched(t, r, eduTopo(), nil, all...)
		for _, of := range realms {
			for _, server := range realms {
				q := api.AsReq{Client: princ(of, "joe"), Server: princ(server, "krbtgt/"+server), Till: 9, Nonce: 1}
				want := api.OK
				if server != r {
					want = api.ErrServer
				}
				if of != r {
					want = api.ErrClient
				}
				if _, err := w.as(q, 5, keyOf(500)); err != want {
					t.Errorf("As of %s at %s is %v, not %v", show(q), r, err, want)
				}
			}
		}
	}
}

// P10.1, P10.2: now below 0, at 0, at MaxTime, above.
func TestNow(t *testing.T) {
	w := edu(t)
	for _, now := range append(unfitNumbers(), 0, 1, 5, 6, 1<<30-6, 1<<30-5, 1<<30-1, 1<<30) {
		fit := slices.Contains([]int{0, 1, 5, 6, 1<<30 - 6, 1<<30 - 5, 1<<30 - 1, 1 << 30}, now)
		want := api.ErrArg
		if fit {
			want = api.OK
		}
		q := goodAs()
		q.Till = 1 << 30
		if _, err := w.as(q, now, keyOf(500)); err != want {
			t.Errorf("As at %d is %v", now, err)
		}
		if c := w.handleAs(q, now, keyOf(500)); !isKind(c, want) {
			t.Errorf("Handle of an AsReq at %d is %x", now, c)
		}
		p := goodPlan()
		p.now, p.till, p.part.Start, p.part.End = now, 1<<30, 0, 1<<30
		if fit {
			p.authn.Time = now
		}
		if _, err := w.tgs(p); err != want {
			t.Errorf("Tgs at %d is %v", now, err)
		}
		if c := w.handleTgs(p); !isKind(c, want) {
			t.Errorf("Handle of a TgsReq at %d is %x", now, c)
		}
	}
}

// isKind tells whether bytes are an answer, or a Fail of that error.
func isKind(b []byte, err api.Errno) bool {
	m, e := msg.Decode(b)
	if e != api.OK {
		return false
	}
	if err == api.OK {
		return m.Kind == 3
	}
	return m.Kind == 5 && m.Fail.Err == err
}

// P10.1, P10.2: Till at now, one below and one above; the End is the lesser one
// of Till and now and MaxLife together, or of Till and the Part's End.
func TestEnds(t *testing.T) {
	w := edu(t)
	for _, c := range []struct{ now, till, end int }{
		{100, 100, 100}, {100, 101, 101}, {100, 1099, 1099}, {100, 1100, 1100}, {100, 1101, 1100}, {100, 1 << 30, 1100}, {0, 0, 0}, {0, 1, 1},
		{0, 999, 999}, {0, 1000, 1000}, {0, 1001, 1000}, {0, 1 << 30, 1000}, {1 << 30, 1 << 30, 1 << 30}, {1<<30 - 1, 1 << 30, 1 << 30},
		{1<<30 - 999, 1 << 30, 1 << 30}, {1<<30 - 1000, 1 << 30, 1 << 30}, {1<<30 - 1001, 1 << 30, 1<<30 - 1}, {1<<30 - 1, 1<<30 - 1, 1<<30 - 1},
	} {
		q := goodAs()
		q.Till = c.till
		rep, err := w.as(q, c.now, keyOf(500))
		if err != api.OK {
			t.Fatalf("As of %d at %d is %v", c.till, c.now, err)
		}
		part, beside := opened(t, rep, keyOf(keyOwn2), keyOf(keyJoe2), 3)
		if part.End != c.end || beside.End != c.end || part.Start != c.now || beside.Start != c.now {
			t.Errorf("As of %d at %d is from %d, %d to %d, %d, not to %d", c.till, c.now, part.Start, beside.Start, part.End, beside.End, c.end)
		}
	}
	for _, c := range []struct{ now, till, partEnd, end int }{
		{100, 100, 600, 100}, {100, 101, 600, 101}, {100, 599, 600, 599}, {100, 600, 600, 600}, {100, 601, 600, 600}, {100, 1 << 30, 600, 600},
		{100, 100, 100, 100}, {100, 101, 100, 100}, {100, 1 << 30, 100, 100}, {100, 100, 101, 100}, {100, 5000, 4000, 4000}, {100, 4000, 5000, 4000},
		{100, 1 << 30, 1 << 30, 1 << 30}, {100, 1<<30 - 1, 1 << 30, 1<<30 - 1}, {100, 1 << 30, 1<<30 - 1, 1<<30 - 1},
	} {
		p := goodPlan()
		p.now, p.till, p.part.End = c.now, c.till, c.partEnd
		rep, err := w.tgs(p)
		if err != api.OK {
			t.Fatalf("Tgs of %s is %v", show(p), err)
		}
		part, beside := opened(t, rep, keyOf(keyWeb2), keyOf(900), 8)
		if part.End != c.end || beside.End != c.end || part.Start != c.now || beside.Start != c.now {
			t.Errorf("Tgs of %d and %d at %d is from %d, %d to %d, %d, not to %d", c.till, c.partEnd, c.now, part.Start, beside.Start, part.End, beside.End, c.end)
		}
	}
	for _, now := range []int{1, 2, 100, 1 << 30} {
		q, p := goodAs(), goodPlan()
		q.Till, p.till = now-1, now-1
		p.now, p.part.Start, p.part.End, p.authn.Time = now, 0, 1<<30, now
		_, asErr := w.as(q, now, keyOf(500))
		_, tgsErr := w.tgs(p)
		if asErr != api.ErrExpired || tgsErr != api.ErrExpired {
			t.Errorf("Till one below %d is %v, %v", now, asErr, tgsErr)
		}
		p.till, p.part.End = now, now-1
		if _, err := w.tgs(p); err != api.ErrExpired {
			t.Errorf("a ticket that ended one below %d is %v", now, err)
		}
	}
}

// P10.2: a Start as much as Skew above now, and one more; an authenticator's
// Time as much as Skew from now, ahead and behind, and one more.
func TestSkews(t *testing.T) {
	w := edu(t)
	for _, now := range []int{0, 1, 4, 5, 6, 100, 1<<30 - 6, 1<<30 - 5, 1<<30 - 4, 1<<30 - 1, 1 << 30} {
		for _, off := range []int{-now, -100, -7, -6, -5, -4, -1, 0, 1, 4, 5, 6, 7, 100, 1<<30 - now} {
			at := now + off
			if at < 0 || at > 1<<30 {
				continue
			}
			start, time := goodPlan(), goodPlan()
			for _, p := range []*plan{&start, &time} {
				p.now, p.till, p.part.Start, p.part.End, p.authn.Time = now, 1<<30, now, 1<<30, now
			}
			start.part.Start, time.authn.Time = at, at
			wantStart, wantTime := api.OK, api.OK
			if off > 5 {
				wantStart = api.ErrSkew
			}
			if off > 5 || off < -5 {
				wantTime = api.ErrSkew
			}
			if _, err := w.tgs(start); err != wantStart {
				t.Errorf("a Start of %d at %d is %v", at, now, err)
			}
			if _, err := w.tgs(time); err != wantTime {
				t.Errorf("a Time of %d at %d is %v", at, now, err)
			}
		}
	}
}

// P10.2: tickets that are opened, by the key that they name: the last one, an
// elder one that is there still, of each realm; none with another one's.
func TestTickets(t *testing.T) {
	w := edu(t)
	servers := []struct {
		p    api.Princ
		keys []int
	}{{own, []int{keyOwn1, keyOwn2}}, {fromCom, []int{keyFromCom1, keyFromCom2}}, {fromA, []int{keyFromA}}, {fromLong, []int{keyFromLong}}}
	for _, s := range servers {
		for kvno := 1; kvno <= 4; kvno++ {
			for lock := range 16 {
				for _, use := range []int{2, 3, 7, 8, 11} {
					p := goodPlan()
					p.shown, p.kvno, p.lock, p.use = s.p, kvno, keyOf(lock), use
					want := api.ErrSeal
					if kvno > len(s.keys) {
						want = api.ErrKey
					} else if lock == s.keys[kvno-1] && use == 2 {
						want = api.OK
					}
					if _, err := w.tgs(p); err != want {
						t.Errorf("a ticket of %s, %d, sealed with key %d and usage %d, is %v, not %v", show(s.p), kvno, lock, use, err, want)
					}
				}
			}
		}
	}
}

// P10.2: a key that is Added is known from then on: further tickets are sealed
// with it, and tickets of an elder one are opened still.
func TestKeysThatAreAdded(t *testing.T) {
	w := edu(t)
	asks := func() {
		t.Helper()
		w.as(goodAs(), 100, keyOf(500))
		w.tgs(goodPlan())
		p := goodPlan()
		p.target = princ("B.EDU", "web")
		w.tgs(p)
		q := goodAs()
		q.Client = ann
		w.as(q, 100, keyOf(500))
		w.tgs(ofRealm(goodPlan()))
	}
	asks()
	for _, p := range []api.Princ{web, own, ann, joe, toB, toB, own, princ("MIT.EDU", "web")} {
		w.add(p)
		asks()
	}
	// At first three are answered, from ann's key on four, from toB's on five.
	if w.issued != 3*3+2*4+4*5 {
		t.Errorf("Issued is %d", w.issued)
	}
}

// P10.2: a Box of another first half opens, as the tag is by the second one, but
// what it opens is no Part, no authenticator.
func TestKeysThatAreHalfTheSame(t *testing.T) {
	w := edu(t)
	for i := range 32 {
		want := api.ErrForm
		if i >= 16 {
			want = api.ErrSeal
		}
		p := goodPlan()
		p.lock[i] ^= 1
		wantTgs(t, w, p, want, "a ticket of half a key")
		p = goodPlan()
		p.holder[i] ^= 1
		wantTgs(t, w, p, want, "an authenticator of half a key")
	}
}

// P10.2: each byte of what is sealed, turned, cut: none opens. Each byte of a
// Part and of an authenticator, turned, cut: it is another one, or none.
func TestEachByte(t *testing.T) {
	w := edu(t)
	good := goodPlan().request()
	for i := range good.Ticket.Blob {
		p := goodPlan()
		p.blob = slices.Clone(good.Ticket.Blob)
		p.blob[i] ^= 1 << (i % 8)
		wantTgs(t, w, p, api.ErrSeal, "a turned ticket")
		p.blob = good.Ticket.Blob[:i+1]
		if i < len(good.Ticket.Blob)-1 {
			wantTgs(t, w, p, api.ErrSeal, "a cut ticket")
		}
	}
	for i := range good.Authn {
		p := goodPlan()
		p.authBlob = slices.Clone(good.Authn)
		p.authBlob[i] ^= 1 << (i % 8)
		wantTgs(t, w, p, api.ErrSeal, "a turned authenticator")
		p.authBlob = good.Authn[:i+1]
		if i < len(good.Authn)-1 {
			wantTgs(t, w, p, api.ErrSeal, "a cut authenticator")
		}
	}
	part, authn := mustBytes(msg.EncodePart(goodPlan().part)), mustBytes(msg.EncodeAuthn(goodPlan().authn))
	for i := range part {
		p := goodPlan()
		p.inner = part[:i]
		wantTgs(t, w, p, api.ErrForm, "a cut Part")
		p.inner = slices.Clone(part)
		p.inner[i] ^= 0x80
		if q, err := msg.DecodePart(p.inner); err == api.OK {
			// It is a Part of another session key then, or of another End.
			p.inner, p.part = nil, q
			if _, err := w.tgs(p); q.Session != keyOf(900) && err != api.ErrForm && err != api.ErrSeal {
				t.Errorf("Tgs of another session key is %v", err)
			}
			continue
		}
		wantTgs(t, w, p, api.ErrForm, "a turned Part")
	}
	for i := range authn {
		p := goodPlan()
		p.authInner = authn[:i]
		wantTgs(t, w, p, api.ErrForm, "a cut authenticator")
		p.authInner = slices.Clone(authn)
		p.authInner[i] ^= 0x80
		wantTgs(t, w, p, api.ErrForm, "a turned authenticator")
	}
}

func wantTgs(t *testing.T, w *watch, p plan, want api.Errno, of string) {
	t.Helper()
	if _, err := w.tgs(p); err != want {
		t.Errorf("Tgs of %s is %v, not %v", of, err, want)
	}
}

// P10.2: who a ticket is for: targets of this realm, of others with a next
// realm, by links and by ways that are laid down.
func TestTargets(t *testing.T) {
	for _, c := range []struct {
		paths  []api.Path
		target api.Princ
		server api.Princ
		key    int
		err    api.Errno
	}{
		{nil, web, web, keyWeb2, api.OK},
		{nil, joe, joe, keyJoe2, api.OK},
		{nil, own, own, keyOwn2, api.OK},
		{nil, toA, toA, keyToA, api.OK},
		{nil, toCom, toCom, keyToCom, api.OK},
		{nil, ann, api.Princ{}, 0, api.ErrServer},
		{nil, toB, api.Princ{}, 0, api.ErrServer},
		{nil, princ("A.EDU", "web"), toA, keyToA, api.OK},
		{nil, far, toA, keyToA, api.OK},
		{nil, fromA, toA, keyToA, api.OK},
		{nil, princ("A.EDU", "krbtgt/COM"), toA, keyToA, api.OK},
		{nil, princ("COM", "web"), toCom, keyToCom, api.OK},
		{nil, princ("Q.COM", "web"), toCom, keyToCom, api.OK},
		{nil, princ("B.EDU", "web"), api.Princ{}, 0, api.ErrRoute},
		{nil, princ("/HP/LAB", "web"), api.Princ{}, 0, api.ErrRoute},
		{nil, princ("X.A.EDU", "web"), api.Princ{}, 0, api.ErrRoute},
		{nil, princ("ORG", "web"), api.Princ{}, 0, api.ErrRoute},
		// Ways that are laid down.
		{[]api.Path{{From: "EDU", To: "B.EDU", Via: []string{"COM", "A.EDU"}}}, princ("B.EDU", "web"), toCom, keyToCom, api.OK},
		{[]api.Path{{From: "EDU", To: "/HP/LAB", Via: []string{"A.EDU"}}}, princ("/HP/LAB", "web"), toA, keyToA, api.OK},
		{[]api.Path{{From: "EDU", To: "A.EDU", Via: []string{"COM"}}}, princ("A.EDU", "web"), toCom, keyToCom, api.OK},
		{[]api.Path{{From: "EDU", To: "A.EDU"}}, princ("A.EDU", "web"), toA, keyToA, api.OK},
		{[]api.Path{{From: "EDU", To: "A.EDU", Via: []string{"B.EDU"}}}, princ("A.EDU", "web"), api.Princ{}, 0, api.ErrRoute},
		{[]api.Path{{From: "EDU", To: "A.EDU", Via: []string{"Q.COM"}}}, princ("A.EDU", "web"), api.Princ{}, 0, api.ErrRoute},
		{[]api.Path{{From: "EDU", To: "Q.COM"}}, princ("Q.COM", "web"), api.Princ{}, 0, api.ErrRoute},
		{[]api.Path{{From: "A.EDU", To: "EDU", Via: []string{"COM"}}}, princ("A.EDU", "web"), toA, keyToA, api.OK},
		{[]api.Path{{From: "COM", To: "A.EDU", Via: []string{"B.EDU"}}}, princ("A.EDU", "web"), toA, keyToA, api.OK},
	} {
		w := edu(t)
		topo := eduTopo()
		topo.Paths = c.paths
		w.kdc = newKdc(t, "EDU", topo, w.ring)
		p := ofRealm(goodPlan())
		p.target = c.target
		rep, err := w.kdc.Tgs(p.request(), p.now, p.draw)
		if err != c.err || rep.Ticket.Server != c.server {
			t.Errorf("with %s a ticket to %s is for %s, %v, not for %s, %v", show(c.paths), show(c.target), show(rep.Ticket.Server), err, show(c.server), c.err)
		}
		if err != api.OK {
			continue
		}
		part, beside := opened(t, rep, keyOf(c.key), keyOf(900), 8)
		want := api.Part{Client: joe, Session: keyOf(500), Start: 100, End: 400}
		wantBeside := api.RepPart{Session: keyOf(500), Server: c.server, Start: 100, End: 400, Nonce: 42}
		if part != want || beside != wantBeside || rep.Client != joe || rep.Ticket.Kvno != w.last(c.server).kvno {
			t.Errorf("with %s a ticket to %s is %s, of %s, %s", show(c.paths), show(c.target), show(rep), show(part), show(beside))
		}
	}
}

// P10.2: the realms that a ticket tells.
func TestTransited(t *testing.T) {
	w := edu(t)
	alice, bob := princ("A.EDU", "alice"), princ("B.EDU", "bob")
	full := "A,B,C,D,E,F,G,H"
	for _, c := range []struct {
		shown  api.Princ
		client api.Princ
		target api.Princ
		old    string
		new    string
		err    api.Errno
	}{
		// What this realm made, or the client's own realm, stays, whatever it is.
		{own, joe, web, "", "", api.OK},
		{own, joe, web, "A.EDU", "A.EDU", api.OK},
		{own, sue, web, "COM", "COM", api.OK},
		{own, sue, web, "MIT.", "MIT.", api.OK},
		{own, sue, princ("A.EDU", "web"), "a b~,,,", "a b~,,,", api.OK},
		{own, sue, web, full, full, api.OK},
		{own, sue, web, full + ",I", full + ",I", api.OK},
		{own, sue, web, strings.Repeat("~", 300), strings.Repeat("~", 300), api.OK},
		{fromA, alice, web, "", "", api.OK},
		{fromA, alice, web, "COM", "COM", api.OK},
		{fromA, alice, princ("COM", "web"), "MIT.", "MIT.", api.OK},
		{fromA, alice, web, full, full, api.OK},
		{fromCom, princ("COM", "ann"), web, "mit", "mit", api.OK},
		// What another realm made tells that one.
		{fromCom, sue, web, "", "COM", api.OK},
		{fromCom, sue, princ("A.EDU", "web"), "", "COM", api.OK},
		{fromCom, sue, web, "A.EDU", "A.EDU,COM", api.OK},
		{fromCom, sue, web, "ORG", "ORG,COM", api.OK},
		{fromCom, sue, web, "/COM", "/COM,COM", api.OK},
		{fromA, sue, web, "COM", "COM,A.EDU", api.OK},
		{fromA, sue, web, "EDU", "EDU,A.", api.OK},
		{fromA, bob, princ("COM", "web"), "", "A.EDU", api.OK},
		{fromLong, sue, web, "COM", "COM, " + long, api.OK},
		{fromLong, sue, web, "/ABCDEFGH", "/ABCDEFGH,/BCDEFGHI/CDEFGHIJ/DEFGHIJK", api.OK},
		{fromCom, sue, web, "A,B,C,D,E,F,G", "A,B,C,D,E,F,G,COM", api.OK},
		// What is told is told once, and stays as it was told.
		{fromCom, sue, web, "COM", "COM", api.OK},
		{fromCom, sue, web, "EDU,COM,A.EDU", "EDU,COM,A.EDU", api.OK},
		{fromCom, sue, web, "EDU,A.,COM,Q.", "EDU,A.,COM,Q.", api.OK},
		{fromCom, sue, web, "COM,COM", "COM,COM", api.OK},
		{fromCom, sue, web, full[:13] + ",COM", full[:13] + ",COM", api.OK},
		// An empty place stands for the way from the client's realm, and to the one
		// that was asked for, not to the next one.
		{fromCom, sue, web, ",", ",", api.OK},
		{fromCom, sue, web, ",A.EDU", ",A.EDU", api.OK},
		{fromCom, bob, web, ",A.EDU", "EDU,A.,COM", api.OK},
		{fromCom, bob, princ("Q.COM", "web"), "A.EDU,", "A.EDU,", api.OK},
		{fromCom, bob, web, "A.EDU,", "A.EDU,COM", api.OK},
		{fromA, sue, princ("COM", "web"), "B.EDU,", "B.EDU,EDU,A.", api.OK},
		// Neither end is told: where the realm that was asked for made it, too.
		{fromCom, alice, princ("COM", "web"), "", "", api.OK},
		{fromCom, alice, princ("COM", "web"), "ORG", "ORG", api.OK},
		{fromCom, alice, princ("Q.COM", "web"), "", "COM", api.OK},
		// What Insert refuses.
		{fromCom, sue, web, "MIT.", "", api.ErrForm},
		{fromCom, sue, web, "COM,mit", "", api.ErrForm},
		{fromCom, sue, web, "COM, MIT", "", api.ErrForm},
		{fromCom, alice, princ("COM", "web"), "mit", "", api.ErrForm},
		{fromCom, sue, web, full, "", api.ErrFull},
		{fromCom, sue, web, "COM," + full, "", api.ErrFull},
		{fromCom, alice, princ("COM", "web"), full + ",I", "", api.ErrFull},
		{fromCom, alice, princ("COM", "web"), full, full, api.OK},
	} {
		p := goodPlan()
		h := w.last(c.shown)
		p.shown, p.kvno, p.lock = c.shown, h.kvno, h.key
		p.part.Client, p.authn.Client, p.part.Transited, p.target = c.client, c.client, c.old, c.target
		rep, err := w.tgs(p)
		if err != c.err {
			t.Errorf("of %s, shown to %s with %s, Tgs is %v, not %v", show(c.client), show(c.shown), show(c.old), err, c.err)
		}
		if err != api.OK {
			continue
		}
		part, _ := opened(t, rep, w.last(rep.Ticket.Server).key, keyOf(900), 8)
		if part.Transited != c.new || part.Client != c.client || rep.Client != c.client {
			t.Errorf("of %s, shown to %s with %s, Transited is %s, not %s", show(c.client), show(c.shown), show(c.old), show(part.Transited), show(c.new))
		}
	}
}

// P10.2: a Transited that becomes as long as a Part's may be, and longer.
func TestLongTransited(t *testing.T) {
	w := edu(t)
	for more, want := range map[int]api.Errno{-6: api.OK, -2: api.OK, -1: api.OK, 0: api.ErrForm, 1: api.ErrForm} {
		p := goodPlan()
		p.shown, p.kvno, p.lock = fromLong, 1, keyOf(keyFromLong)
		p.part.Transited = longTransited(more)
		rep, err := w.tgs(p)
		if err != want {
			t.Errorf("a Transited that becomes %d bytes long is %v", 301+more, err)
		}
		if err != api.OK {
			continue
		}
		part, _ := opened(t, rep, keyOf(keyWeb2), keyOf(900), 8)
		if part.Transited != longTransited(more)+", "+long || len(part.Transited) != 301+more {
			t.Errorf("a Transited of %d bytes is %s", len(part.Transited), show(part.Transited))
		}
	}
	// It is as long as may be, but not told anew: nothing becomes longer.
	p := goodPlan()
	p.part.Transited = "ABCD" + strings.Repeat(",COM", 74)
	rep, err := w.tgs(p)
	if err != api.OK {
		t.Fatalf("Tgs of a Transited of 300 bytes is %v", err)
	}
	if part, _ := opened(t, rep, keyOf(keyWeb2), keyOf(900), 8); part.Transited != p.part.Transited {
		t.Errorf("a Transited of 300 bytes becomes %s", show(part.Transited))
	}
}

// P10.1, P10.2: what answers say, with which keys, written out.
func TestWhatAnswersSay(t *testing.T) {
	w := edu(t)
	rep, err := w.as(goodAs(), 100, keyOf(500))
	if err != api.OK || rep.Client != joe || rep.Ticket.Server != own || rep.Ticket.Kvno != 2 {
		t.Errorf("As is %s, %v", show(rep), err)
	}
	part, beside := opened(t, rep, keyOf(keyOwn2), keyOf(keyJoe2), api.UseAsRep)
	if want := (api.Part{Client: joe, Session: keyOf(500), Start: 100, End: 400}); part != want {
		t.Errorf("As's ticket is of %s", show(part))
	}
	if want := (api.RepPart{Session: keyOf(500), Server: own, Start: 100, End: 400, Nonce: 41}); beside != want {
		t.Errorf("beside As's ticket is %s", show(beside))
	}
	rep, err = w.tgs(goodPlan())
	if err != api.OK || rep.Client != sue || rep.Ticket.Server != web || rep.Ticket.Kvno != 2 {
		t.Errorf("Tgs is %s, %v", show(rep), err)
	}
	part, beside = opened(t, rep, keyOf(keyWeb2), keyOf(900), api.UseTgsRep)
	if want := (api.Part{Client: sue, Session: keyOf(500), Transited: "COM", Start: 100, End: 400}); part != want {
		t.Errorf("Tgs's ticket is of %s", show(part))
	}
	if want := (api.RepPart{Session: keyOf(500), Server: web, Start: 100, End: 400, Nonce: 42}); beside != want {
		t.Errorf("beside Tgs's ticket is %s", show(beside))
	}
	for use := range 256 {
		if _, err := seal.New(keyOf(keyWeb2)).Open(use, rep.Ticket.Blob); (err == api.OK) != (use == 2) {
			t.Errorf("Tgs's ticket opens with usage %d: %v", use, err)
		}
		if _, err := seal.New(keyOf(900)).Open(use, rep.Blob); (err == api.OK) != (use == 8) {
			t.Errorf("what is beside opens with usage %d: %v", use, err)
		}
	}
	for n := range 20 {
		if _, err := seal.New(keyOf(n)).Open(2, rep.Ticket.Blob); (err == api.OK) != (n == keyWeb2) {
			t.Errorf("Tgs's ticket opens with key %d: %v", n, err)
		}
	}
}

// P10.1: clients that are servers, too, and the realm's own server as a client.
func TestAnyClientOfTheRealm(t *testing.T) {
	w := edu(t)
	for _, p := range []api.Princ{web, own, toA, toCom} {
		q := goodAs()
		q.Client = p
		rep, err := w.as(q, 100, keyOf(501))
		if err != api.OK || rep.Client != p {
			t.Fatalf("As of %s is %s, %v", show(p), show(rep), err)
		}
		part, beside := opened(t, rep, keyOf(keyOwn2), w.last(p).key, 3)
		if part.Client != p || part.Session != keyOf(501) || beside.Session != keyOf(501) || beside.Server != own {
			t.Errorf("As of %s is of %s, %s", show(p), show(part), show(beside))
		}
	}
}

// P10.1, P10.2: draws are what is drawn, noughts too; requests' nonces and Seqs
// are any.
func TestDrawsAndNonces(t *testing.T) {
	w := edu(t)
	for _, draw := range []api.Key{{}, keyOf(0), keyOf(1), keyOf(900), {31: 1}, {0: 255}} {
		for _, nonce := range []int{0, 1, 127, 128, 65535, 1<<30 - 1, 1 << 30} {
			q, p := goodAs(), goodPlan()
			q.Nonce, p.nonce, p.draw, p.authn.Seq = nonce, nonce, draw, nonce
			a, asErr := w.as(q, 100, draw)
			b, tgsErr := w.tgs(p)
			if asErr != api.OK || tgsErr != api.OK {
				t.Fatalf("of nonce %d As is %v, Tgs %v", nonce, asErr, tgsErr)
			}
			part, beside := opened(t, a, keyOf(keyOwn2), keyOf(keyJoe2), 3)
			part2, beside2 := opened(t, b, keyOf(keyWeb2), keyOf(900), 8)
			if part.Session != draw || beside.Session != draw || part2.Session != draw || beside2.Session != draw || beside.Nonce != nonce || beside2.Nonce != nonce {
				t.Errorf("of nonce %d and draw %x As is %s, %s, Tgs %s, %s", nonce, draw, show(part), show(beside), show(part2), show(beside2))
			}
		}
	}
}

// nonceOf is what stands at a sealed one's beginning.
func nonceOf(b []byte) int { return int(binary.BigEndian.Uint64(b)) }

// P10.2: a request may be asked again: nothing of it is kept, and the answer is
// another one by its nonces alone.
func TestTheSameAgain(t *testing.T) {
	w := edu(t)
	for i := range 20 {
		a, _ := w.as(goodAs(), 100, keyOf(500))
		b, _ := w.tgs(goodPlan())
		if nonceOf(a.Ticket.Blob) != 4*i+1 || nonceOf(a.Blob) != 4*i+2 || nonceOf(b.Ticket.Blob) != 4*i+3 || nonceOf(b.Blob) != 4*i+4 {
			t.Errorf("at %d nonces are %d, %d, %d, %d", i, nonceOf(a.Ticket.Blob), nonceOf(a.Blob), nonceOf(b.Ticket.Blob), nonceOf(b.Blob))
		}
	}
}

// P10.4: nonces one behind the other, over many answers, with each error between
// them: what errs takes none, and is not counted.
func TestNonces(t *testing.T) {
	w := edu(t)
	next, answers := 1, 0
	wantNext := func(rep api.Rep, err api.Errno) {
		t.Helper()
		if err != api.OK || nonceOf(rep.Ticket.Blob) != next || nonceOf(rep.Blob) != next+1 {
			t.Fatalf("nonces are not %d and %d: %s, %v", next, next+1, show(rep), err)
		}
		next, answers = next+2, answers+1
		if n := w.kdc.Issued(); n != answers {
			t.Errorf("behind %d answers Issued is %d", answers, n)
		}
	}
	wantSame := func(err api.Errno) {
		t.Helper()
		if n := w.kdc.Issued(); n != answers || err == api.OK {
			t.Errorf("behind %d answers and %v Issued is %d", answers, err, n)
		}
	}
	for _, f := range tgsFaults() {
		wantNext(w.as(goodAs(), 100, keyOf(500)))
		p := goodPlan()
		f.do(&p)
		_, err := w.tgs(p)
		wantSame(err)
		wantNext(w.tgs(goodPlan()))
	}
	for _, f := range asFaults() {
		q, now := goodAs(), 100
		f.do(&q, &now)
		_, err := w.as(q, now, keyOf(500))
		wantSame(err)
		wantNext(w.tgs(goodPlan()))
		w.handle("Handle of nothing", nil, 100, keyOf(500), nil)
		wantSame(api.ErrForm)
		m, err := msg.Decode(w.handleAs(goodAs(), 100, keyOf(500)))
		wantNext(m.Rep, err)
	}
}

// P10.3: Handle of requests, and of each other message.
func TestHandle(t *testing.T) {
	w := edu(t)
	for i := range 5 {
		c := w.handleAs(goodAs(), 100+i, keyOf(500+i))
		m, err := msg.Decode(c)
		if err != api.OK || m.Kind != api.MsgRep || m.Rep.Client != joe || m.Rep.Ticket.Server != own || nonceOf(m.Rep.Blob) != 4*i+2 {
			t.Errorf("Handle of an AsReq is %x", c)
		}
		c = w.handleTgs(goodPlan())
		m, err = msg.Decode(c)
		if err != api.OK || m.Kind != api.MsgRep || m.Rep.Client != sue || m.Rep.Ticket.Server != web || nonceOf(m.Rep.Blob) != 4*i+4 {
			t.Errorf("Handle of a TgsReq is %x", c)
		}
		for _, m := range otherMessages(c) {
			b := mustBytes(msg.Encode(m))
			w.handle("Handle of "+show(m), b, 100, keyOf(500), nil)
			w.handle("Handle of "+show(m)+" at no time", b, -1, keyOf(500), nil)
		}
	}
}

// otherMessages are those that nobody asks a Kdc: answers, what asks a service,
// errors.
func otherMessages(rep []byte) []api.Msg {
	m, _ := msg.Decode(rep)
	q := goodPlan().request()
	return []api.Msg{
		m, {Kind: 3, Rep: api.Rep{Client: joe, Ticket: q.Ticket, Blob: []byte{1}}}, {Kind: 4, ApReq: api.ApReq{Ticket: q.Ticket, Authn: q.Authn}},
		{Kind: 5, Fail: api.Fail{Err: 1}}, {Kind: 5, Fail: api.Fail{Err: 5, Nonce: 41}}, {Kind: 5, Fail: api.Fail{Err: 255, Nonce: 1 << 30}},
	}
}

// P10.3: bytes that are no message: none, requests that are cut, turned, with
// bytes ahead and behind, what is sealed in them, long ones.
func TestHandleOfNoMessages(t *testing.T) {
	w := edu(t)
	as := mustBytes(msg.Encode(api.Msg{Kind: 1, AsReq: goodAs()}))
	tgs := mustBytes(msg.Encode(api.Msg{Kind: 2, TgsReq: goodPlan().request()}))
	none := [][]byte{
		nil, {}, {0}, []byte("joe"), {0x6a, 0}, {0x6c, 0}, {0x6b, 0}, {0x7e, 0}, bytes.Repeat([]byte{0x6a}, 2000), make([]byte, 2001), make([]byte, 1<<20),
		mustBytes(msg.EncodePart(goodPlan().part)), mustBytes(msg.EncodeAuthn(goodPlan().authn)), goodPlan().request().Authn, as[2:], tgs[4:],
	}
	for _, b := range [][]byte{as, tgs} {
		none = append(none, append(slices.Clone(b), 0), append([]byte{0}, b...), append(slices.Clone(b), b...))
		for i := range b {
			none = append(none, b[:i])
		}
	}
	for _, b := range none {
		if _, err := msg.Decode(b); err == api.OK {
			t.Fatalf("%x is a message", b)
		}
		for _, now := range []int{100, -1} {
			w.handle("Handle of "+strconv.Itoa(len(b))+" bytes", b, now, keyOf(500), nil)
		}
	}
	for i := range as {
		b := slices.Clone(as)
		b[i] ^= 0x81
		if _, err := msg.Decode(b); err != api.OK {
			w.handle("Handle of a turned AsReq", b, 100, keyOf(500), nil)
		}
	}
}

// P10.3: a Fail of each error, with the request's Nonce.
func TestHandleOfWhatErrs(t *testing.T) {
	w := edu(t)
	nonces := []int{0, 1, 42, 127, 128, 1<<30 - 1, 1 << 30}
	wantFail := func(c []byte, err api.Errno, nonce int) {
		t.Helper()
		m, e := msg.Decode(c)
		if want := (api.Msg{Kind: api.MsgFail, Fail: api.Fail{Err: err, Nonce: nonce}}); e != api.OK || !reflect.DeepEqual(m, want) {
			t.Errorf("Handle is %x, not a Fail of %v, %d", c, err, nonce)
		}
	}
	seen := map[api.Errno]int{}
	for i, f := range tgsFaults() {
		p := goodPlan()
		p.nonce = nonces[i%len(nonces)]
		f.do(&p)
		if _, err := msg.Encode(api.Msg{Kind: 2, TgsReq: p.request()}); err != api.OK {
			continue
		}
		wantFail(w.handleTgs(p), f.err, p.nonce)
		seen[f.err]++
	}
	for i, f := range asFaults() {
		q, now := goodAs(), 100
		q.Nonce = nonces[i%len(nonces)]
		f.do(&q, &now)
		if _, err := msg.Encode(api.Msg{Kind: 1, AsReq: q}); err != api.OK {
			continue
		}
		wantFail(w.handleAs(q, now, keyOf(500)), f.err, q.Nonce)
		seen[f.err]++
	}
	for _, err := range []api.Errno{api.ErrArg, api.ErrForm, api.ErrSeal, api.ErrKey, api.ErrClient, api.ErrServer, api.ErrExpired, api.ErrSkew, api.ErrMatch, api.ErrRoute, api.ErrFull} {
		if seen[err] == 0 {
			t.Errorf("no Fail of %v was seen", err)
		}
	}
	// A written-out one: of the error 5, with the nonce 41.
	q := goodAs()
	q.Client = ann
	if c := w.handleAs(q, 100, keyOf(500)); !bytes.Equal(c, []byte{0x7e, 6, 2, 1, 5, 2, 1, 41}) {
		t.Errorf("Handle of an unknown client is %x", c)
	}
}

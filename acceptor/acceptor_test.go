package acceptor_test

import (
	"bytes"
	"encoding/hex"
	"math"
	"slices"
	"strings"
	"testing"

	"legate/acceptor"
	"legate/api"
	"legate/der"
	"legate/msg"
	"legate/ring"
	"legate/seal"
)

// The service web of B.EDU, which most tests ask, and who has keys in its Ring.

var (
	web  = princ("B.EDU", "web")
	mail = princ("B.EDU", "mail")
	own  = princ("B.EDU", "krbtgt/B.EDU")
	far  = princ("EDU", "web")
	// A client of another realm, which passes two.
	sue = princ("Q.COM", "sue")
	joe = princ("A.EDU", "joe")
	bob = princ("B.EDU", "bob")
)

func topo() api.Topo {
	return api.Topo{
		Realms: []string{"EDU", "A.EDU", "B.EDU", "COM", "Q.COM", "/HP/LAB"},
		Links:  [][2]string{{"A.EDU", "EDU"}, {"EDU", "B.EDU"}, {"COM", "EDU"}, {"Q.COM", "COM"}},
		Paths: []api.Path{
			{From: "COM", To: "B.EDU", Via: []string{"A.EDU", "Q.COM"}},
			{From: "/HP/LAB", To: "B.EDU"},
			// Of other ends: nothing hangs on these.
			{From: "B.EDU", To: "Q.COM", Via: []string{"A.EDU"}},
			{From: "Q.COM", To: "EDU", Via: []string{"/HP/LAB"}},
		},
	}
}

// ways is what may be passed to B.EDU, worked out by hand.
func ways() map[string][]string {
	return map[string][]string{"A.EDU": {"EDU"}, "COM": {"A.EDU", "Q.COM"}, "Q.COM": {"COM", "EDU"}}
}

func begun(t *testing.T, now int) *watch {
	t.Helper()
	return watched(t, web, topo(), ways(), now, web, mail, web, own, far, web)
}

// service is one that began at no time.
func service(t *testing.T) *watch {
	t.Helper()
	return begun(t, 0)
}

// Its keys, by their places.
const (
	keyWeb1 = iota + 1
	keyMail
	keyWeb2
	keyOwn
	keyFar
	keyWeb3
)

// goodPlan is a request that is accepted.
func goodPlan() plan {
	return plan{
		now: 100, server: web, kvno: 2, lock: keyOf(keyWeb2), use: 2,
		part:   api.Part{Client: sue, Session: keyOf(900), Transited: "COM,EDU", Start: 90, End: 600},
		holder: keyOf(900), authUse: 11, authn: api.Authn{Client: sue, Time: 100, Seq: 3},
	}
}

// at is a good one at that time, with an authenticator of that Time and Seq.
func at(now, time, seq int) plan {
	p := goodPlan()
	p.now, p.part.Start, p.part.End = now, 0, 1<<30
	p.authn.Time, p.authn.Seq = time, seq
	return p
}

// The chapter's example.
func TestTheExample(t *testing.T) {
	w := service(t)
	for range 3 {
		p := goodPlan()
		p.raw = []byte("junk")
		w.want(p, api.ErrForm, "junk")
	}
	w.want(goodPlan(), api.OK, "a request")
}

// P14.1: the limits and numbers that the tests take.
func TestLimits(t *testing.T) {
	if api.Skew != 5 || api.MaxReplay != 8 || api.MaxTime != 1<<30 || api.UseTicket != 2 || api.UseApAuth != 11 || api.MsgApReq != 4 || api.MaxTransit != 8 || api.MaxBlob != 800 {
		t.Error("the limits are others than the tests take")
	}
}

// unfitPrincs may not be.
func unfitPrincs() []api.Princ {
	return []api.Princ{
		{}, princ("B.EDU", ""), princ("", "web"), princ("b.edu", "web"), princ("B.EDU", "Web"), princ("B.EDU", "abcdefghi"), princ("ABCDEFGHI", "web"),
		princ("B.EDU", "krbtgt/"), princ("B.EDU", "krbtgt/edu"), princ("B.EDU.", "web"), princ("B.EDU", "web\x00"), princ("B.EDU\xff", "web"), princ("B.EDU", "web "),
		princ("A.B.C.D.EDU", "web"), princ("B.EDU", strings.Repeat("web", 1<<18)), princ(strings.Repeat("B.", 1<<18)+"EDU", "web"),
	}
}

// unfitTopos may not be, each for another reason; B.EDU is one of most.
func unfitTopos() []api.Topo {
	return []api.Topo{
		{},
		{Links: [][2]string{{"B.EDU", "COM"}}},
		{Realms: []string{"B.EDU", "B.EDU"}},
		{Realms: []string{"B.EDU", "edu"}},
		{Realms: []string{"B.EDU", ""}},
		{Realms: []string{"B.EDU", "A", "B", "C", "D", "E", "F"}},
		{Realms: []string{"B.EDU"}, Links: [][2]string{{"B.EDU", "COM"}}},
		{Realms: []string{"B.EDU", "COM"}, Links: [][2]string{{"B.EDU", "B.EDU"}}},
		{Realms: []string{"B.EDU", "COM"}, Links: [][2]string{{"B.EDU", "COM"}, {"B.EDU", "COM"}}},
		{Realms: []string{"B.EDU", "COM"}, Paths: []api.Path{{From: "B.EDU", To: "ORG"}}},
		{Realms: []string{"B.EDU", "COM"}, Paths: []api.Path{{From: "B.EDU", To: "B.EDU"}}},
		{Realms: []string{"B.EDU", "COM"}, Paths: []api.Path{{From: "B.EDU", To: "COM"}, {From: "B.EDU", To: "COM"}}},
		{Realms: []string{"B.EDU", "COM"}, Paths: []api.Path{{From: "B.EDU", To: "COM", Via: []string{"COM"}}}},
		{Realms: []string{"B.EDU", "COM"}, Paths: []api.Path{{From: "B.EDU", To: "COM", Via: []string{"ORG"}}}},
	}
}

// P14.1: New of a principal that may not be, of a Topo that may not be, of a realm
// that is none of it, without a Ring, and of each of these together.
func TestNewErrors(t *testing.T) {
	princs, topos, rings := unfitPrincs(), unfitTopos(), []*ring.Ring{nil, ring.New()}
	// They may be, but their realms are none of any Topo here.
	strange := []api.Princ{princ("ORG", "web"), princ("X.B.EDU", "web"), princ("/B/EDU", "web"), princ("EDU.B", "web"), princ("BB.EDU", "krbtgt/B.EDU")}
	for _, now := range []int{0, 100, -1, 1<<30 + 1, math.MinInt, math.MaxInt} {
		for _, r := range rings {
			for i, tp := range append([]api.Topo{topo(), {Realms: []string{"B.EDU"}}}, topos...) {
				for j, p := range slices.Concat([]api.Princ{web, mail, own}, princs, strange) {
					want := api.ErrArg
					if i < 2 && j < 3 && r != nil {
						want = api.OK
					}
					if a, err := acceptor.New(p, tp, r, now); err != want || (a == nil) != (want != api.OK) {
						t.Fatalf("New of %s, %s, a Ring: %t, at %d is %v, %v", show(p), show(tp), r != nil, now, a, err)
					}
				}
			}
		}
	}
}

// P14.1: each realm of a Topo has services, whatever keys the Ring has, also none.
func TestEachRealm(t *testing.T) {
	var all []api.Princ
	for _, r := range topo().Realms {
		all = append(all, princ(r, "web"), princ(r, "krbtgt/EDU"))
	}
	// What may be passed, from one realm to another: by a Path, or between.
	may := map[[2]string][]string{
		{"COM", "B.EDU"}: {"A.EDU", "Q.COM"}, {"/HP/LAB", "B.EDU"}: nil, {"B.EDU", "Q.COM"}: {"A.EDU"}, {"Q.COM", "EDU"}: {"/HP/LAB"},
		{"A.EDU", "B.EDU"}: {"EDU"}, {"B.EDU", "A.EDU"}: {"EDU"}, {"A.EDU", "COM"}: {"EDU"}, {"COM", "A.EDU"}: {"EDU"}, {"B.EDU", "COM"}: {"EDU"},
		{"EDU", "Q.COM"}: {"COM"}, {"Q.COM", "B.EDU"}: {"COM", "EDU"}, {"Q.COM", "A.EDU"}: {"COM", "EDU"}, {"A.EDU", "Q.COM"}: {"EDU", "COM"},
		{"/HP/LAB", "COM"}: {"/HP"}, {"COM", "/HP/LAB"}: {"/HP"}, {"/HP/LAB", "EDU"}: {"/HP"}, {"EDU", "/HP/LAB"}: {"/HP"},
		{"/HP/LAB", "A.EDU"}: {"/HP", "EDU"}, {"A.EDU", "/HP/LAB"}: {"EDU", "/HP"}, {"B.EDU", "/HP/LAB"}: {"EDU", "/HP"},
		{"/HP/LAB", "Q.COM"}: {"/HP", "COM"}, {"Q.COM", "/HP/LAB"}: {"COM", "/HP"},
	}
	passable := append(topo().Realms, "/HP", "ORG", "X.A.EDU")
	for _, server := range topo().Realms {
		of := map[string][]string{}
		for _, client := range topo().Realms {
			of[client] = may[[2]string{client, server}]
		}
		for _, p := range []api.Princ{princ(server, "web"), princ(server, "krbtgt/EDU")} {
			w := watched(t, p, topo(), of, 0, all...)
			now := 0
			for _, client := range topo().Realms {
				for _, passed := range passable {
					now += 6
					x := at(now, now, 1)
					h := w.at(p, 1)
					x.server, x.kvno, x.lock = p, 1, h.key
					x.client(princ(client, "joe"))
					x.part.Transited = passed
					want := api.ErrPolicy
					if slices.Contains(of[client], passed) {
						want = api.OK
					}
					w.want(x, want, client+" to "+server+" by "+passed)
				}
			}
		}
		none := watched(t, princ(server, "web"), topo(), of, 0)
		x := goodPlan()
		x.server = princ(server, "web")
		none.want(x, api.ErrKey, "a Ring of no keys")
	}
}

// A fault is what can be wrong with a request: what it changes, in which of its
// fields, and at which place the document names its error.
type fault struct {
	place int
	err   api.Errno
	field string
	name  string
	do    func(p *plan)
	// What comes ahead of it, if something does.
	ahead func(w *watch)
}

// many is a fault for each of l.
func many[T any](place int, err api.Errno, field, name string, l []T, do func(p *plan, x T)) []fault {
	var faults []fault
	for _, x := range l {
		faults = append(faults, fault{place: place, err: err, field: field, name: name + " " + show(x), do: func(p *plan) { do(p, x) }})
	}
	return faults
}

// unfitTimes are none of 0 to MaxTime.
func unfitTimes() []int {
	return []int{-1, -2, -1 << 30, math.MinInt, 1<<30 + 1, 1 << 31, 1 << 32, 1<<32 + 100, math.MaxInt}
}

// junk is bytes that are none of that kind: other ones of api's, no bytes, its own
// bytes cut, and with one behind.
func junk(of []byte) [][]byte {
	p := goodPlan()
	l := [][]byte{
		{}, {0}, []byte("joe"), of[1:], of[:len(of)-1], append(slices.Clone(of), 0), append(slices.Clone(of), of...), make([]byte, len(of)), make([]byte, 784),
		mustBytes(msg.EncodePart(p.part)), mustBytes(msg.EncodeAuthn(p.authn)), mustBytes(msg.EncodeRep(api.RepPart{Server: web, Nonce: 1})),
		mustBytes(msg.Encode(api.Msg{Kind: 5, Fail: api.Fail{Err: 3}})),
	}
	return slices.DeleteFunc(l, func(b []byte) bool { return bytes.Equal(b, of) })
}

// otherMessages are those that nobody asks a service with.
func otherMessages() []api.Msg {
	q := goodPlan().request()
	return []api.Msg{
		{Kind: 1, AsReq: api.AsReq{Client: sue, Server: web, Till: 400, Nonce: 4}},
		{Kind: 2, TgsReq: api.TgsReq{Ticket: q.Ticket, Authn: q.Authn, Server: web, Till: 400, Nonce: 4}},
		{Kind: 3, Rep: api.Rep{Client: sue, Ticket: q.Ticket, Blob: q.Authn}},
		{Kind: 5, Fail: api.Fail{Err: 2, Nonce: 4}},
	}
}

// laid is a request's bytes, whether it may be or not.
func laid(q api.ApReq) []byte {
	server := der.Wrap(0x30, der.Text(q.Ticket.Server.Realm), der.Text(q.Ticket.Server.Name))
	return der.Wrap(0x6e, der.Wrap(0x61, server, der.Int(q.Ticket.Kvno), der.Octets(q.Ticket.Blob)), der.Octets(q.Authn))
}

// noRequests is bytes that are no request: other messages, requests that may not
// be, in another form, cut, and more.
func noRequests() [][]byte {
	good := goodPlan().bytes()
	l := [][]byte{
		{}, {0}, []byte("junk"), {0x6e, 0}, {0x6e}, bytes.Repeat([]byte{0x6e}, 2000), make([]byte, 2001), make([]byte, 1<<20),
		append(slices.Clone(good), 0), append([]byte{0}, good...), append(slices.Clone(good), good...), good[3:], good[1:], good[:len(good)-1], good[:1],
		goodPlan().request().Authn, goodPlan().request().Ticket.Blob, mustBytes(msg.EncodePart(goodPlan().part)), mustBytes(msg.EncodeAuthn(goodPlan().authn)),
	}
	for _, m := range otherMessages() {
		l = append(l, mustBytes(msg.Encode(m)))
	}
	unfit := func(do func(q *api.ApReq)) {
		q := goodPlan().request()
		do(&q)
		l = append(l, laid(q))
	}
	for _, n := range []int{0, 256, 257, 1 << 30} {
		unfit(func(q *api.ApReq) { q.Ticket.Kvno = n })
	}
	for _, n := range []int{0, 801, 5000} {
		unfit(func(q *api.ApReq) { q.Ticket.Blob = make([]byte, n) })
		unfit(func(q *api.ApReq) { q.Authn = make([]byte, n) })
	}
	for _, p := range unfitPrincs()[:14] {
		unfit(func(q *api.ApReq) { q.Ticket.Server = p })
	}
	return l
}

// requestFaults is all that can be wrong with what is handed in, ahead of any key.
func requestFaults() []fault {
	return slices.Concat(
		many(0, api.ErrArg, "now", "now", unfitTimes(), func(p *plan, n int) { p.now = n }),
		many(1, api.ErrForm, "raw", "bytes", noRequests(), func(p *plan, b []byte) { p.raw = b }),
		many(2, api.ErrMatch, "server", "ticket for", []api.Princ{mail, own, far, bob, sue, princ("A.EDU", "web"), princ("B.EDU", "we"), princ("B.EDU", "webb"), princ("/B/EDU", "web"), princ("ORG", "web"), princ("B.EDU", "krbtgt/EDU")},
			func(p *plan, x api.Princ) { p.server = x }),
	)
}

// ticketFaults is all that can be wrong with a ticket.
func ticketFaults() []fault {
	part := mustBytes(msg.EncodePart(goodPlan().part))
	return slices.Concat(
		many(3, api.ErrKey, "kvno", "ticket of number", []int{4, 5, 6, 7, 127, 128, 254, 255}, func(p *plan, n int) { p.kvno = n }),
		many(4, api.ErrSeal, "lock", "ticket sealed with", []int{keyWeb1, keyWeb3, keyMail, keyOwn, keyFar, 0, 99, 900}, func(p *plan, n int) { p.lock = keyOf(n) }),
		many(4, api.ErrSeal, "use", "ticket's usage", []int{0, 1, 3, 7, 8, 11, 255}, func(p *plan, n int) { p.use = n }),
		many(4, api.ErrSeal, "blob", "ticket's blob of length", []int{1, 15, 16, 17, 100, 800}, func(p *plan, n int) { p.blob = bytes.Repeat([]byte{0x30}, n) }),
		many(5, api.ErrForm, "part", "ticket seals", junk(part), func(p *plan, b []byte) { p.inner = b }),
		many(6, api.ErrExpired, "end", "ended at", []int{99, 98, 90, 1, 0}, func(p *plan, n int) { p.part.End = n }),
		many(7, api.ErrSkew, "start", "starts at", []int{106, 107, 600, 1 << 30}, func(p *plan, n int) { p.part.Start = n }),
	)
}

// authnFaults is all that can be wrong with an authenticator, but its Time.
func authnFaults() []fault {
	authn := mustBytes(msg.EncodeAuthn(goodPlan().authn))
	return slices.Concat(
		many(8, api.ErrSeal, "holder", "authn sealed with", []int{901, keyWeb2, keyWeb3, keyOwn, 0}, func(p *plan, n int) { p.holder = keyOf(n) }),
		many(8, api.ErrSeal, "auth use", "authn's usage", []int{0, 2, 3, 7, 8, 10, 12, 255}, func(p *plan, n int) { p.authUse = n }),
		many(8, api.ErrSeal, "auth blob", "authn's blob of length", []int{1, 15, 16, 17, 100, 800}, func(p *plan, n int) { p.authBlob = bytes.Repeat([]byte{0x30}, n) }),
		many(9, api.ErrForm, "authn", "authn is", junk(authn), func(p *plan, b []byte) { p.authInner = b }),
		many(10, api.ErrMatch, "auth client", "authn of", []api.Princ{bob, princ("Q.COM", "bob"), princ("COM", "sue"), princ("Q.COM", "su"), princ("Q.COM", "suee"), princ("/Q/COM", "sue"), princ("Q.COM", "krbtgt/COM"), web, own},
			func(p *plan, x api.Princ) { p.authn.Client = x }),
	)
}

// wayFaults is all that can be wrong with the realms that were passed.
func wayFaults() []fault {
	return slices.Concat(
		many(11, api.ErrForm, "transited", "transited", []string{"MIT.", "a", " EDU", "EDU,mit", "EDU,A.EDU,.", "EDU ", "EDU..", "/HP/", "EDU,,mit", "ABCDEFGHI", "EDU;COM", "A,B,C,D,E,F,G,H,mit"},
			func(p *plan, s string) { p.part.Transited = s + ",?" }),
		many(11, api.ErrFull, "transited", "transited", []string{"A,B,C,D,E,F,G,H,I", "/A,/B,/B,/B,X,,COM.A.B,A,B,C,D,E", "A,B,C,D,E,F,G,H,I,mit"},
			func(p *plan, s string) { p.part.Transited = s }),
		many(12, api.ErrArg, "client", "client of", []string{"ORG", "HP", "X.A.EDU", "X.Q.COM", "X.B.EDU", "/HP", "/HP/LAB/X", "/COM", "Q", "EDU.COM"},
			func(p *plan, s string) { p.client(princ(s, "joe")) }),
		many(13, api.ErrPolicy, "transited", "transited", []string{"A.EDU", "ORG", "Q.COM", "B.EDU", "/HP/LAB", "COM,EDU,A.EDU", "A.EDU,COM,EDU", "COM,EDU,Q.COM", "COM,EDU,B.", "COM,A.EDU,EDU", "/COM", "COM,EDU,ORG", "X.COM", "EDU,B.,COM", "A,B,C,D,E,F,G,H"},
			func(p *plan, s string) { p.part.Transited = s }),
	)
}

// seeFaults is all that can be wrong with an authenticator's Time, or with what came
// ahead of it.
func seeFaults() []fault {
	l := slices.Concat(
		many(14, api.ErrSkew, "time", "authn's time", []int{0, 90, 93, 94, 106, 107, 200, 1 << 30}, func(p *plan, n int) { p.authn.Time = n }),
		many(14, api.ErrSkew, "time", "restarted at", []int{95, 99, 100}, func(p *plan, n int) {}),
		many(14, api.ErrReplay, "time", "seen at", []int{95, 99, 100}, func(p *plan, n int) {}),
		many(14, api.ErrReplay, "time", "seen among eight at", []int{95, 99, 100}, func(p *plan, n int) {}),
		many(14, api.ErrFull, "time", "eight seen at", []int{95, 99, 100}, func(p *plan, n int) {}),
	)
	for i, now := range []int{95, 99, 100} {
		l[8+i].ahead = func(w *watch) { w.restart(now) }
		l[11+i].ahead = func(w *watch) { w.want(at(now, 100, 3), api.OK, "what is seen") }
		l[14+i].ahead = func(w *watch) {
			w.want(at(now, 100, 3), api.OK, "what is seen")
			fill(w, now, 100, 7)
		}
		l[17+i].ahead = func(w *watch) { fill(w, now, 100, 8) }
	}
	return l
}

// fill has so many others accepted.
func fill(w *watch, now, time, count int) {
	w.t.Helper()
	for i := range count {
		w.want(at(now, time, 1000+i), api.OK, "one of eight")
	}
}

func faults() []fault {
	return slices.Concat(requestFaults(), ticketFaults(), authnFaults(), wayFaults(), seeFaults())
}

// P14.1: each error, alone; what is refused by anything else than what was seen
// does not count as seen: the same authenticator, right, is accepted behind it.
func TestErrors(t *testing.T) {
	for _, f := range faults() {
		w := service(t)
		if f.ahead != nil {
			f.ahead(w)
		}
		p := goodPlan()
		f.do(&p)
		if place, _ := w.errs(p); place != f.place {
			t.Errorf("the model has %s at %d, not %d", f.name, place, f.place)
		}
		for range 3 {
			w.want(p, f.err, f.name)
		}
		if f.ahead == nil {
			w.want(goodPlan(), api.OK, "a right one behind "+f.name)
			w.want(goodPlan(), api.ErrReplay, "the same again behind "+f.name)
		}
	}
}

// P14.1: of each two errors that can apply together the one named first.
func TestErrorsTogether(t *testing.T) {
	l := faults()
	for _, a := range l {
		for _, b := range l {
			if a.place >= b.place || a.field == b.field {
				continue
			}
			w := service(t)
			if b.ahead != nil {
				b.ahead(w)
			}
			for _, order := range [][2]fault{{a, b}, {b, a}} {
				p := goodPlan()
				order[0].do(&p)
				order[1].do(&p)
				w.want(p, a.err, a.name+" and "+b.name)
			}
			if b.place == placeSee {
				// What stands behind is wrong by itself.
				p := goodPlan()
				b.do(&p)
				w.want(p, b.err, b.name+" behind "+a.name)
			}
		}
	}
}

// P14.1, P13.1: of each two of See's errors the one that it names first.
func TestSeesErrorsTogether(t *testing.T) {
	// Skewed, though it was seen, and though eight are there.
	w := service(t)
	w.want(at(100, 100, 3), api.OK, "the first")
	w.want(at(106, 100, 3), api.ErrSkew, "what was seen, and is late")
	w = service(t)
	fill(w, 100, 105, 8)
	for _, time := range []int{94, 106} {
		w.want(at(100, time, 3), api.ErrSkew, "a ninth that is skewed")
	}
	w.want(at(100, 100, 3), api.ErrFull, "a ninth")
	w.want(at(100, 105, 1000), api.ErrReplay, "one of the eight")
	// Skewed by the beginning.
	w = begun(t, 100)
	w.want(at(101, 106, 3), api.OK, "behind the beginning")
	w.want(at(101, 105, 3), api.ErrSkew, "too near to the beginning")
	fill(w, 101, 106, 7)
	w.want(at(101, 105, 4), api.ErrSkew, "a ninth that is too near to the beginning")
	w.want(at(101, 106, 4), api.ErrFull, "a ninth behind the beginning")
	w.want(at(101, 106, 3), api.ErrReplay, "one of eight behind the beginning")
}

// P14.1: now below 0, at 0, at MaxTime, above: also of bytes that are no request.
func TestNow(t *testing.T) {
	for _, now := range append(unfitTimes(), 0, 1, 5, 6, 1<<30-6, 1<<30-5, 1<<30-1, 1<<30) {
		fit := now >= 0 && now <= 1<<30
		for _, time := range []int{0, max(0, min(now, 1<<30)), 1 << 30} {
			w := service(t)
			want := api.ErrArg
			if fit {
				want = api.ErrSkew
				if time-now <= 5 && now-time <= 5 {
					want = api.OK
				}
			}
			w.want(at(now, time, 3), want, "a request")
			p := at(now, time, 4)
			p.raw = []byte("junk")
			if want = api.ErrArg; fit {
				want = api.ErrForm
			}
			w.want(p, want, "junk")
			p.raw = []byte{}
			w.want(p, want, "nothing")
		}
	}
}

// P14.1: bytes that are no request, at any now that may be: each cut of one, each
// byte of what stands around the sealed bytes turned, each message of another kind.
func TestNoRequests(t *testing.T) {
	w := service(t)
	good := goodPlan().bytes()
	for i := range good {
		p := goodPlan()
		p.raw = good[:i]
		w.want(p, api.ErrForm, "a cut request")
		p.raw = good[i+1:]
		w.want(p, api.ErrForm, "a request cut ahead")
	}
	turned := 0
	for i := range good {
		for _, with := range []byte{1, 0x80, 0xff} {
			b := slices.Clone(good)
			b[i] ^= with
			if _, err := msg.Decode(b); err == api.OK {
				continue
			}
			p := goodPlan()
			p.raw = b
			w.want(p, api.ErrForm, "a turned request")
			turned++
		}
	}
	if turned < 30 {
		t.Errorf("only %d bytes were turned", turned)
	}
	for _, b := range noRequests() {
		p := goodPlan()
		p.raw = b
		w.want(p, api.ErrForm, "no request")
	}
	w.want(goodPlan(), api.OK, "a request behind all")
	if laid := laid(goodPlan().request()); !bytes.Equal(laid, good) {
		t.Errorf("what the test lays is %x, not %x", laid, good)
	}
}

// P14.1: a ticket that is right, but of another service whose keys the Ring has.
func TestTicketsOfOthers(t *testing.T) {
	w := service(t)
	for seq, h := range w.keys {
		p := at(100, 100, seq)
		p.server, p.kvno, p.lock = h.p, h.kvno, h.key
		want := api.ErrMatch
		if h.p == web {
			want = api.OK
		}
		w.want(p, want, "a ticket of "+show(h.p))
	}
}

// P14.1: tickets that are opened, by the key that they name: the last one, elder
// ones that are there still; none with another one's.
func TestKeys(t *testing.T) {
	keys := []int{keyWeb1, keyWeb2, keyWeb3}
	for kvno := 1; kvno <= 5; kvno++ {
		for lock := range 10 {
			for _, use := range []int{2, 3, 7, 8, 11} {
				w := service(t)
				p := goodPlan()
				p.kvno, p.lock, p.use = kvno, keyOf(lock), use
				want := api.ErrSeal
				if kvno > len(keys) {
					want = api.ErrKey
				} else if lock == keys[kvno-1] && use == 2 {
					want = api.OK
				}
				w.want(p, want, "a ticket of a key")
			}
		}
	}
	// Without its own keys, whatever others are there.
	w := watched(t, web, topo(), ways(), 0, mail, own, far)
	for kvno := 1; kvno <= 255; kvno++ {
		p := goodPlan()
		p.kvno, p.lock = kvno, keyOf(1)
		w.want(p, api.ErrKey, "a ticket of no key")
	}
}

// P14.1: a key that is Added is known from then on, and elder ones still are.
func TestKeysThatAreAdded(t *testing.T) {
	w := service(t)
	now := 100
	for kvno := 4; kvno <= 30; kvno++ {
		p := at(now, now, kvno)
		p.kvno, p.lock = kvno, keyOf(len(w.keys)+1)
		w.want(p, api.ErrKey, "a key that is to be")
		w.add(web)
		w.want(p, api.OK, "a key that was Added")
		p = at(now, now, 100+kvno)
		w.want(p, api.OK, "an elder key")
		now += 6
	}
}

// P14.1: a Box of another first half opens, as the tag is by the second one, but
// what it opens is no Part, no authenticator.
func TestKeysThatAreHalfTheSame(t *testing.T) {
	w := service(t)
	for i := range 32 {
		want := api.ErrForm
		if i >= 16 {
			want = api.ErrSeal
		}
		p := goodPlan()
		p.lock[i] ^= 1
		w.want(p, want, "a ticket of half a key")
		p = goodPlan()
		p.holder[i] ^= 1
		w.want(p, want, "an authenticator of half a key")
	}
	w.want(goodPlan(), api.OK, "the keys themselves")
}

// P14.1: each byte of what is sealed, turned, cut: none opens. Each byte of a
// Part and of an authenticator, cut, turned: it is none, or another one.
func TestEachByte(t *testing.T) {
	w := service(t)
	good := goodPlan().request()
	for i := range good.Ticket.Blob {
		p := goodPlan()
		p.blob = slices.Clone(good.Ticket.Blob)
		p.blob[i] ^= 1 << (i % 8)
		w.want(p, api.ErrSeal, "a turned ticket")
		if i > 0 {
			p.blob = good.Ticket.Blob[:i]
			w.want(p, api.ErrSeal, "a cut ticket")
		}
	}
	for i := range good.Authn {
		p := goodPlan()
		p.authBlob = slices.Clone(good.Authn)
		p.authBlob[i] ^= 1 << (i % 8)
		w.want(p, api.ErrSeal, "a turned authenticator")
		if i > 0 {
			p.authBlob = good.Authn[:i]
			w.want(p, api.ErrSeal, "a cut authenticator")
		}
	}
	part, authn := mustBytes(msg.EncodePart(goodPlan().part)), mustBytes(msg.EncodeAuthn(goodPlan().authn))
	for i := range part {
		p := goodPlan()
		p.inner = part[:i]
		w.want(p, api.ErrForm, "a cut Part")
		p.inner = slices.Clone(part)
		p.inner[i] ^= 0x80
		if q, err := msg.DecodePart(p.inner); err == api.OK {
			// It is a Part of another session key then, or of another End.
			p.inner, p.part = nil, q
			service(t).take(p)
			continue
		}
		w.want(p, api.ErrForm, "a turned Part")
	}
	for i := range authn {
		p := goodPlan()
		p.authInner = authn[:i]
		w.want(p, api.ErrForm, "a cut authenticator")
		p.authInner = slices.Clone(authn)
		p.authInner[i] ^= 0x80
		w.want(p, api.ErrForm, "a turned authenticator")
	}
	w.want(goodPlan(), api.OK, "a request behind all")
}

// P14.1: an End at now, one below and one above; a Start as much as Skew above now,
// and one more; at each time, also where both are the other way round.
func TestEndsAndStarts(t *testing.T) {
	for _, now := range []int{0, 1, 4, 5, 6, 100, 1<<30 - 6, 1<<30 - 5, 1<<30 - 4, 1<<30 - 1, 1 << 30} {
		for _, off := range []int{-now, -100, -7, -6, -5, -2, -1, 0, 1, 2, 4, 5, 6, 7, 100, 1<<30 - now} {
			n := now + off
			if n < 0 || n > 1<<30 {
				continue
			}
			want := api.OK
			if off < 0 {
				want = api.ErrExpired
			}
			p := at(now, now, 1)
			p.part.End = n
			service(t).want(p, want, "an End")
			if p.part.Start = 1 << 30; off >= 0 && now+5 < 1<<30 {
				want = api.ErrSkew
			}
			service(t).want(p, want, "an End, and a Start that is far")
			if want = api.OK; off > 5 {
				want = api.ErrSkew
			}
			p = at(now, now, 1)
			p.part.Start = n
			service(t).want(p, want, "a Start")
			p.part.End = now
			service(t).want(p, want, "a Start, and an End at now")
		}
	}
}

// P14.1: tickets of each session key, and of each client of each realm, whose
// authenticator is of another one: also of one with the same name or realm.
func TestClients(t *testing.T) {
	clients := []api.Princ{
		sue, princ("Q.COM", "su"), princ("Q.COM", "sue2"), princ("Q.COM", "krbtgt/COM"), princ("Q.COM", "krbtgt/Q.COM"), princ("EDU", "sue"), princ("COM", "sue"),
		joe, bob, web, mail, own, princ("/HP/LAB", "sue"), princ("/HP/LAB", "krbtgt//HP/LAB"), princ("A.EDU", "sue"), princ("A.EDU", "0"),
	}
	for i, a := range clients {
		for j, b := range clients {
			w := service(t)
			p := goodPlan()
			p.part.Client, p.part.Transited, p.part.Session, p.authn.Client = a, "", keyOf(1000*i+j), b
			p.holder = p.part.Session
			want := api.ErrMatch
			if i == j {
				want = api.OK
			}
			w.want(p, want, show(a)+" as "+show(b))
		}
	}
}

// P14.1: what is told of the realms that were passed, whether these may be, and
// what is answered of them.
func TestRealmsPassed(t *testing.T) {
	hp := princ("/HP/LAB", "sue")
	for _, c := range []struct {
		client    api.Princ
		transited string
		err       api.Errno
		passed    []string
	}{
		// Nothing passed is right from anywhere.
		{sue, "", api.OK, nil}, {joe, "", api.OK, nil}, {bob, "", api.OK, nil}, {hp, "", api.OK, nil}, {princ("COM", "sue"), "", api.OK, nil}, {princ("EDU", "sue"), "", api.OK, nil},
		// Some of the way, all of it, in any order, told twice.
		{sue, "COM", api.OK, []string{"COM"}}, {sue, "EDU", api.OK, []string{"EDU"}}, {sue, "COM,EDU", api.OK, []string{"COM", "EDU"}}, {sue, "EDU,COM", api.OK, []string{"EDU", "COM"}},
		{sue, "EDU,EDU,COM,EDU", api.OK, []string{"EDU", "COM"}}, {joe, "EDU", api.OK, []string{"EDU"}}, {joe, "EDU,EDU", api.OK, []string{"EDU"}},
		// An empty place stands for the way between, whether or not a Path is laid down.
		{sue, ",", api.OK, []string{"COM", "EDU"}}, {sue, ",,", api.OK, []string{"COM", "EDU"}}, {sue, ",EDU", api.OK, []string{"COM", "EDU"}}, {sue, "COM,", api.OK, []string{"COM", "EDU"}},
		{joe, ",", api.OK, []string{"EDU"}}, {bob, ",", api.OK, nil}, {princ("EDU", "sue"), ",", api.OK, nil},
		{hp, ",", api.ErrPolicy, nil}, {princ("COM", "sue"), ",", api.ErrPolicy, nil}, {sue, "EDU,,COM", api.OK, []string{"EDU", "COM"}},
		// A Path is laid down: what is on it may be passed, what is between may not.
		{princ("COM", "sue"), "A.EDU", api.OK, []string{"A.EDU"}}, {princ("COM", "sue"), "Q.COM,A.EDU", api.OK, []string{"Q.COM", "A.EDU"}}, {princ("COM", "sue"), "EDU", api.ErrPolicy, nil},
		{princ("COM", "sue"), "A.EDU,EDU", api.ErrPolicy, nil}, {hp, "/HP", api.ErrPolicy, nil}, {hp, "EDU", api.ErrPolicy, nil},
		// One's own realm, the service's, and others.
		{sue, "Q.COM", api.ErrPolicy, nil}, {sue, "B.EDU", api.ErrPolicy, nil}, {sue, "COM,Q.", api.ErrPolicy, nil}, {sue, "EDU,B.", api.ErrPolicy, nil}, {bob, "B.EDU", api.ErrPolicy, nil},
		{bob, "EDU", api.ErrPolicy, nil}, {joe, "A.EDU", api.ErrPolicy, nil}, {joe, "COM", api.ErrPolicy, nil}, {joe, "EDU,COM", api.ErrPolicy, nil}, {joe, "EDU,A.,B.EDU", api.ErrPolicy, nil},
		{sue, "/COM", api.ErrPolicy, nil}, {sue, "/EDU", api.ErrPolicy, nil}, {sue, "ORG", api.ErrPolicy, nil}, {sue, "COM,X.,", api.ErrPolicy, nil}, {sue, "A,B,C,D,E,F,G,H", api.ErrPolicy, nil},
		// What is told in no way that may be.
		{sue, "X.", api.ErrForm, nil}, {sue, "COM,?", api.ErrForm, nil}, {sue, "COM, EDU", api.ErrForm, nil}, {sue, "com", api.ErrForm, nil}, {sue, " ", api.ErrForm, nil}, {sue, "ORG,x", api.ErrForm, nil},
		{sue, strings.Repeat("~", 300), api.ErrForm, nil}, {bob, "EDU,mit", api.ErrForm, nil}, {hp, "/HP, EDU", api.ErrForm, nil},
		{sue, "A,B,C,D,E,F,G,H,I", api.ErrFull, nil}, {bob, "A,B,C,D,E,F,G,H,I", api.ErrFull, nil}, {sue, "A,B,C,D,E,F,G,,X.Y.Z.EDU", api.ErrFull, nil},
		{sue, "COM" + strings.Repeat(",EDU,COM", 37), api.OK, []string{"COM", "EDU"}}, {sue, strings.Repeat(",", 300), api.OK, []string{"COM", "EDU"}},
		// A client of no realm of the Topo: behind what is told, ahead of what may be.
		{princ("ORG", "sue"), "", api.ErrArg, nil}, {princ("ORG", "sue"), "EDU", api.ErrArg, nil}, {princ("ORG", "sue"), "Q.COM", api.ErrArg, nil}, {princ("ORG", "sue"), ",", api.ErrArg, nil},
		{princ("ORG", "sue"), "x", api.ErrForm, nil}, {princ("ORG", "sue"), "A,B,C,D,E,F,G,H,I", api.ErrFull, nil}, {princ("X.A.EDU", "sue"), "A.EDU", api.ErrArg, nil}, {princ("HP", "sue"), "", api.ErrArg, nil},
		{princ("/HP", "sue"), "", api.ErrArg, nil}, {princ("/B/EDU", "bob"), "", api.ErrArg, nil}, {princ("EDU.B", "bob"), "", api.ErrArg, nil},
	} {
		w := service(t)
		p := goodPlan()
		p.client(c.client)
		p.part.Transited = c.transited
		x := w.want(p, c.err, show(c.client)+" by "+c.transited)
		if !slices.Equal(x.Transited, c.passed) {
			t.Errorf("of %s by %s Transited is %s, not %s", show(c.client), show(c.transited), show(x.Transited), show(c.passed))
		}
	}
}

// P14.1: all fields of what was accepted, written out, for each number that may be.
func TestWhatIsAccepted(t *testing.T) {
	w := service(t)
	x := w.want(goodPlan(), api.OK, "a request")
	if want := (api.Accept{Client: sue, Server: web, Session: keyOf(900), Transited: []string{"COM", "EDU"}, Time: 100, Seq: 3}); !sameAccept(x, want) {
		t.Errorf("what was accepted is %s, not %s", show(x), show(want))
	}
	for _, session := range []api.Key{{}, keyOf(0), keyOf(keyWeb2), {31: 1}, {0: 255}} {
		for _, seq := range []int{0, 1, 127, 128, 65535, 1<<30 - 1, 1 << 30} {
			for _, now := range []int{0, 5, 100, 1<<30 - 5, 1 << 30} {
				for _, off := range []int{-5, -1, 0, 1, 5} {
					if now+off < 0 || now+off > 1<<30 {
						continue
					}
					w := service(t)
					p := at(now, now+off, seq)
					p.part.Session, p.holder = session, session
					p.client(joe)
					p.part.Transited = "EDU"
					x := w.want(p, api.OK, "a request")
					if want := (api.Accept{Client: joe, Server: web, Session: session, Transited: []string{"EDU"}, Time: now + off, Seq: seq}); !sameAccept(x, want) {
						t.Errorf("what was accepted is %s, not %s", show(x), show(want))
					}
				}
			}
		}
	}
}

// P14.1: requests as bytes that were worked out apart from the program, by the
// words of chapters 1 to 4 and 8 alone.
func TestBytesWorkedOutApart(t *testing.T) {
	for _, c := range []struct {
		asked string
		want  api.Accept
	}{
		// joe, from 5 to 1005, by EDU.
		{"6e818b6161300c1b05422e4544551b03776562020101044e00000000000000071f84b9dedbb3829fc678e057793c60759ec6a66b0445ffa99cfc97136c11" +
			"5b63e2d4dd191dab00c0a5c5f2a83dc62bdf103346f7c92536fd204ea4e16099fe76640f5c8bf24b04260000000000000003c314c1a1f0e6542a1bc4f0a1" +
			"1d004b64611fa3af1dc74d9b60d5c3ac6371",
			api.Accept{Client: joe, Server: web, Session: risingKey(64), Transited: []string{"EDU"}, Time: 20, Seq: 1}},
		// sue, from 25 to 20, by COM and EDU; the ticket's nonce is the greatest.
		{"6e818f6164300c1b05422e4544551b03776562020102045100000100000000003585cc451ac1a918816abcf868e49f78dce5e3e6abf1c08c0a2b1ea77cf5" +
			"f47edcbe7defcaa673eda441065736c1acb4d1f0b07d0dd19d51a80102897b1ce38bd7210adb168fd75fa6042700000000000000001f5e81ca38bef7713e" +
			"182204f4763f6f7d55a9b95700e7479d7e7e89b1d77f",
			api.Accept{Client: sue, Server: web, Session: risingKey(96), Transited: []string{"COM", "EDU"}, Time: 15, Seq: 300}},
	} {
		r := ring.New()
		r.Add(web, risingKey(0))
		r.Add(web, risingKey(32))
		a := newAcceptor(t, web, topo(), r, 0)
		b, err := hex.DecodeString(c.asked)
		if err != nil {
			t.Fatal(err)
		}
		if x, err := a.Take(b, 20); err != api.OK || !sameAccept(x, c.want) {
			t.Errorf("Take of %s is %s, %v, not %s", c.asked, show(x), err, show(c.want))
		}
		if x, err := a.Take(b, 20); err != api.ErrReplay || !sameAccept(x, api.Accept{}) {
			t.Errorf("Take again of %s is %s, %v", c.asked, show(x), err)
		}
	}
}

// risingKey is a key of bytes that rise from that one on.
func risingKey(from int) api.Key {
	var k api.Key
	for i := range k {
		k[i] = byte(from + i)
	}
	return k
}

// P14.1: the session's key is the Part's alone: no key of the Ring, and no other
// ticket's, opens the authenticator.
func TestSessions(t *testing.T) {
	w := service(t)
	for i := range 8 {
		for j := range 8 {
			p := at(100, 100, i)
			p.part.Session, p.holder = keyOf(i), keyOf(j)
			want := api.ErrSeal
			if i == j {
				want = api.OK
			}
			w.want(p, want, "a session")
		}
		// What was seen is the authenticator, whatever the session was.
		w.want(at(100, 100, i), api.ErrReplay, "the same authenticator with another session")
	}
	// A Blob that the key of another session sealed in the ticket's place.
	p := goodPlan()
	p.blob = mustBytes(seal.New(keyOf(900)).Seal(2, 1, mustBytes(msg.EncodePart(p.part))))
	w.want(p, api.ErrSeal, "a ticket that the session's key sealed")
}

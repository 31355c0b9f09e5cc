package client_test

import (
	"bytes"
	"encoding/hex"
	"math"
	"slices"
	"strings"
	"sync"
	"testing"

	"legate/api"
	"legate/client"
	"legate/msg"
	"legate/seal"
)

func TestTheExample(t *testing.T) {
	w := watched(t)
	w.chase(web, 20)
	realm, b, err := w.chase(web, 20)
	if realm != "" || len(b) != 0 || err != api.ErrState {
		t.Errorf("Chase twice is %q, %x, %v", realm, b, err)
	}
	w.wantState(api.ChaseGoes, api.OK, 1)
}

func fromHex(t *testing.T, s string) []byte {
	t.Helper()
	b, err := hex.DecodeString(s)
	if err != nil {
		t.Fatal(err)
	}
	return b
}

// P12.1 to P12.3: a chase and Asks, with all bytes worked out apart from the
// program: nonces, seals' nonces, Tills, Seqs, usages, keys.
func TestWrittenOutBytes(t *testing.T) {
	var k api.Key
	for i := range k {
		k[i] = byte(i)
	}
	c, err := client.New(joe, k)
	if err != api.OK {
		t.Fatal(err)
	}
	want := func(of, realm string, b []byte, wantRealm, wantHex string) {
		t.Helper()
		if realm != wantRealm || hex.EncodeToString(b) != wantHex {
			t.Fatalf("%s is %q, %x, not %q, %s", of, realm, b, wantRealm, wantHex)
		}
	}
	realm, b, _ := c.Chase(web, 20)
	want("Chase", realm, b, "A.EDU", "6a2c300c1b05412e4544551b036a6f6530151b05412e4544551b0c6b72627467742f412e454455020203fc020101")
	// The first ticket: its key is 40 to 5f.
	realm, b = c.Take(fromHex(t, "6b8186300c1b05412e4544551b036a6f65611f30151b05412e4544551b0c6b72627467742f412e45445502010104030102030455000000000000000941a401f3cf6f2a9e6ff546d90ce243aa62f042ca2a6dc2a8a6d448340f0444c3daf4c24bd90de7bd433e46631265ff817cdefa5945ccfbb09c01fec70205b7b2937d16601883e976d8d3104128"), 21)
	want("Take of the first ticket", realm, b, "A.EDU", "6c5e611f30151b05412e4544551b0c6b72627467742f412e4544550201010403010203042600000000000000017d158701fccc564285ad7d6e54fa6443e031bb1a688112212652b8d23c32300c1b05422e4544551b03776562020203fd020102")
	// A referral to B.EDU: its key is 60 to 7f.
	realm, b = c.Take(fromHex(t, "6b8185300c1b05412e4544551b036a6f65611e30151b05412e4544551b0c6b72627467742f422e454455020102040204050455000000000000000a67ae76d9749443ccb0da22a22d4398e78bf14dbeb6c48004ade0f3357f4e3abac51f230738336f5d68fa27d44f0d3ac83419d79e5395778fec3d48f926a6cbbd9c8966f51e525dd3d4f2e1ee92"), 22)
	want("Take of a referral", realm, b, "B.EDU", "6c5d611e30151b05412e4544551b0c6b72627467742f422e45445502010204020405042600000000000000025f29c05b78a942391c7268d52e50921b58ac0371d7b6618a72d04b0df1cc300c1b05422e4544551b03776562020203fe020103")
	// The target's ticket: its key is 80 to 9f.
	realm, b = c.Take(fromHex(t, "6b73300c1b05412e4544551b036a6f656115300c1b05422e4544551b03776562020200ff040106044c000000000000000b5b3fb5cb42043b4d22abe28aeccb83c58fdde1eba8a647ff463dd4afc3b1cabf3af6fb05f931bfbeba72a051d406b22c9c3719e23658acf801454b897df98d8e4e4955ad"), 23)
	want("Take of the target's ticket", realm, b, "", "")
	if state, err, sent := c.State(); state != 2 || err != 0 || sent != 3 {
		t.Fatalf("State is %d, %v, %d", state, err, sent)
	}
	b, _ = c.Ask(web, 23)
	want("Ask", "", b, "", "6e3f6115300c1b05422e4544551b03776562020200ff040106042600000000000000036341027ec0d17115b7c2e3efb954c9dc3f37ee2df89b9858b5b4e2cafd7e")
	b, _ = c.Ask(own, 300)
	want("Ask of the first ticket", "", b, "", "6e4a611f30151b05412e4544551b0c6b72627467742f412e45445502010104030102030427000000000000000499f33ecbc63b4d2cfd9c5772188eb258543c1dedea0588b571cc70e8b6992b")
	realm, b, _ = c.Chase(mail, 301)
	want("Chase with the first ticket", realm, b, "A.EDU", "6c60611f30151b05412e4544551b0c6b72627467742f412e454455020101040301020304270000000000000005fd0b22448d7ffa50d0a79348d0afae4a81445e9378cec972aefa0c77e278e6300d1b05412e4544551b046d61696c02020515020104")
	x, ok := c.Cred(web, 1020)
	wantX := api.Cred{Ticket: api.Ticket{Server: web, Kvno: 255, Blob: []byte{6}}, End: 1020}
	for i := range wantX.Session {
		wantX.Session[i] = byte(0x80 + i)
	}
	if !ok || !same(x, wantX) {
		t.Errorf("Cred is %s, %v", show(x), ok)
	}
}

// fitParties may be, and are no realm's server.
func fitParties() []api.Princ {
	return []api.Princ{
		joe, web, princ("EDU", "a"), princ("A", "0"), princ("ABCDEFGH.ABCDEFGH.ABCDEFGH.ABCDEFGH", "abcdefgh"), princ("/COM", "joe"), princ("/COM/HP", "web"),
		princ("/ABCDEFGH/ABCDEFGH/ABCDEFGH/ABCDEFGH", "01234567"), princ("EDU", "krbtgt"), princ("KRBTGT", "krbtgt"), princ("A.EDU", "edu"), princ("Z", "z9"),
	}
}

// unfitPrincs may not be.
func unfitPrincs() []api.Princ {
	return []api.Princ{
		{}, princ("EDU", ""), princ("", "joe"), princ("edu", "joe"), princ("EDU", "Joe"), princ("EDU", "JOE"), princ("EDU", "abcdefghi"), princ("ABCDEFGHI", "joe"),
		princ("EDU", "krbtgt/"), princ("EDU", "krbtgt/edu"), princ("EDU", "krbtgt/A..B"), princ("EDU", "krbtgt/A/B"), princ("EDU", "krbtgt/A.B.C.D.E"), princ("", "krbtgt/EDU"),
		princ("edu", "krbtgt/EDU"), princ("EDU.", "joe"), princ(".EDU", "joe"), princ("/", "joe"), princ("EDU/A", "joe"), princ("A.B.C.D.E", "joe"), princ("EDU", "joe\x00"),
		princ("EDU\xff", "joe"), princ("EDU ", "joe"), princ("EDU", " joe"), princ("EDU", "jo/e"), princ("EDU", "krbtgtx/EDU"), princ("EDU", "Krbtgt/EDU"), princ("EDU", "é"),
		princ("EDU", strings.Repeat("a", 1<<18)), princ(strings.Repeat("EDU.", 1<<18), "joe"), princ("joe", "A.EDU"),
	}
}

// realmServers may be, but are Krbtgts.
func realmServers() []api.Princ {
	return []api.Princ{
		own, toEdu, toB, princ("B.EDU", "krbtgt/A.EDU"), princ("EDU", "krbtgt/EDU"), princ("/COM", "krbtgt//COM"), princ("EDU", "krbtgt//COM/HP"), princ("/COM/HP", "krbtgt/EDU"),
		princ("A", "krbtgt/KRBTGT"), princ("A.EDU", "krbtgt/ABCDEFGH.ABCDEFGH.ABCDEFGH.ABCDEFGH"),
	}
}

// unfitTimes are none of 0 to MaxTime.
func unfitTimes() []int {
	return []int{-1, -2, -1000, -1 << 30, -1 << 31, math.MinInt, 1<<30 + 1, 1<<30 + 1000, 1 << 31, 1 << 32, 1<<32 + 20, math.MaxInt}
}

// P12.1: New of principals that may be, that may not be, of a realm's server.
func TestNew(t *testing.T) {
	for _, p := range slices.Concat(unfitPrincs(), realmServers()) {
		if c, err := client.New(p, keyOf(1)); c != nil || err != api.ErrArg {
			t.Errorf("New of %s is %t, %v", show(p), c != nil, err)
		}
	}
	for i, p := range fitParties() {
		w := watchedOf(t, p, keyOf(i))
		w.wantState(0, 0, 0)
		if realm, b, err := w.chase(web, 5); realm != p.Realm || len(b) == 0 || err != api.OK {
			t.Errorf("Chase of %s is to %q, %x, %v", show(p), realm, b, err)
		}
		if realm, _ := w.get(w.own(), 500, 5); realm != p.Realm {
			t.Errorf("the first ticket of %s leads to %q", show(p), realm)
		}
	}
}

// P12.1: each key has its own answers: what another one's answer is sealed with
// is nothing.
func TestEachKey(t *testing.T) {
	var keys []api.Key
	for i := range 32 {
		k := keyOf(1)
		k[i] ^= 0x10
		keys = append(keys, k)
	}
	for _, k := range append(keys, keyOf(1), api.Key{}, keyOf(99)) {
		w := watchedOf(t, joe, k)
		w.chase(web, 20)
		a := w.fitting(own)
		a.lock = keyOf(1)
		if realm, _ := w.take(a.bytes(), 20); (realm != "") != (k == keyOf(1)) {
			t.Errorf("with the key %x an answer of another leads to %q", k, realm)
		}
	}
}

// inStates are watches, one in each state, and a name of it; those whose chases
// ended have got tickets.
func inStates(t *testing.T) map[string]*watch {
	t.Helper()
	l := map[string]*watch{"none": watched(t), "first request out": watched(t), "further request out": watched(t), "second realm asked": watched(t), "done": watched(t), "failed": watched(t), "failed by itself": watched(t)}
	for _, w := range l {
		if w != l["none"] {
			w.chase(web, 20)
		}
		if w != l["none"] && w != l["first request out"] {
			w.get(own, 500, 21)
		}
	}
	l["second realm asked"].get(toEdu, 400, 22)
	l["done"].get(web, 300, 22)
	l["failed"].fail(api.ErrRoute, 22)
	l["failed by itself"].get(mail, 300, 22)
	l["done"].wantState(2, 0, 2)
	l["failed"].wantState(3, api.ErrRoute, 2)
	l["failed by itself"].wantState(3, api.ErrMatch, 2)
	return l
}

// P12.1, W3, W4: Chase of what may not be, in each state: ErrState is named ahead
// of ErrArg, and neither changes anything, nor takes a nonce.
func TestChaseErrors(t *testing.T) {
	for name, w := range inStates(t) {
		want := api.ErrArg
		if w.state == 1 {
			want = api.ErrState
		}
		wantErr := func(target api.Princ, fits bool, now int, want api.Errno) {
			t.Helper()
			if realm, b, err := w.chaseOf(target, fits, now); realm != "" || len(b) != 0 || err != want {
				t.Errorf("%s: Chase(%s, %d) is %q, %x, %v, not %v", name, show(target), now, realm, b, err, want)
			}
		}
		for _, p := range slices.Concat(unfitPrincs(), realmServers()) {
			wantErr(p, false, 20, want)
			wantErr(p, false, -1, want)
			wantErr(p, false, 1<<30, want)
		}
		for _, now := range unfitTimes() {
			wantErr(web, true, now, want)
			wantErr(own, false, now, want)
		}
		if w.state == 1 {
			wantErr(web, true, 20, want)
			wantErr(mail, true, 0, want)
			w.fail(7, 30)
		}
		if _, _, err := w.chase(mail, 30); err != api.OK {
			t.Errorf("%s: Chase behind errors is %v", name, err)
		}
		w.wantState(1, 0, 1)
	}
}

// P12.1: Chase while one goes, behind one that is done, behind one that failed:
// sent begins again, and no realm is visited.
func TestChaseAgain(t *testing.T) {
	w := watched(t)
	for round := range 4 {
		w.chase(web, 20)
		if round == 0 {
			w.get(own, 500, 20)
		}
		for _, p := range []api.Princ{toEdu, toB, princ("B.EDU", "krbtgt/C.EDU")} {
			w.wantState(1, 0, w.sent)
			before := w.sent
			if w.get(p, 500, 20); w.sent != before+1 || w.state != 1 {
				t.Fatalf("in round %d a referral to %s is %d, %v, %d", round, show(p), w.state, w.err, w.sent)
			}
			if _, _, err := w.chase(mail, 20); err != api.ErrState {
				t.Errorf("Chase while one goes is %v", err)
			}
		}
		switch round {
		case 0, 2:
			w.get(web, 500, 20)
		case 1:
			w.fail(api.ErrPolicy, 20)
		}
		if round == 3 {
			w.get(toEdu, 500, 20)
			w.wantState(3, api.ErrLoop, 4)
		}
	}
	// Behind an error State tells none as soon as another chase goes.
	w.chase(mail, 20)
	w.wantState(1, 0, 1)
	w.get(mail, 500, 20)
	w.wantState(2, 0, 1)
}

// P12.1: all targets that may be, also oneself, and one's own realm's.
func TestTargets(t *testing.T) {
	w := watched(t)
	for i, p := range fitParties() {
		w.chase(p, 20)
		if i == 0 {
			w.get(own, 500, 20)
		}
		a := w.fitting(p)
		if realm, b := w.take(a.bytes(), 20); realm != "" || len(b) != 0 {
			t.Errorf("a ticket of the target %s leads to %q, %x", show(p), realm, b)
		}
		if i < 9 {
			w.wantState(2, 0, w.sent)
		} else {
			w.wantState(3, api.ErrFull, 1)
		}
	}
}

// P12.1: times at 0, at MaxTime and near it: what a request asks for lasts
// MaxLife, at most to MaxTime, and its authenticator is of now.
func TestTimes(t *testing.T) {
	for _, c := range []struct{ now, till int }{
		{0, 1000}, {1, 1001}, {20, 1020}, {1<<30 - 1001, 1<<30 - 1}, {1<<30 - 1000, 1 << 30}, {1<<30 - 999, 1 << 30}, {1<<30 - 1, 1 << 30}, {1 << 30, 1 << 30},
	} {
		w := watched(t)
		_, b, err := w.chase(web, c.now)
		m, _ := msg.Decode(b)
		if err != api.OK || m.Kind != 1 || m.AsReq != (api.AsReq{Client: joe, Server: own, Till: c.till, Nonce: 1}) {
			t.Errorf("Chase at %d sends %s, %v", c.now, show(m), err)
		}
		a := w.fitting(own)
		a.part.End = 1 << 30
		_, b = w.take(a.bytes(), c.now)
		wantFurther(t, b, a, api.TgsReq{Server: web, Till: c.till, Nonce: 2}, 1, c.now)
		w.fail(9, c.now)
		_, b, err = w.chase(mail, c.now)
		wantFurther(t, b, a, api.TgsReq{Server: mail, Till: c.till, Nonce: 3}, 2, c.now)
		if err != api.OK {
			t.Errorf("Chase with the first ticket at %d is %v", c.now, err)
		}
	}
}

// wantFurther wants a further request with an answer's ticket, whose authenticator
// was sealed with that nonce and is of that time.
func wantFurther(t *testing.T, b []byte, a answer, q api.TgsReq, nonce, now int) {
	t.Helper()
	m, err := msg.Decode(b)
	got := m.TgsReq
	if err != api.OK || m.Kind != 2 || got.Server != q.Server || got.Till != q.Till || got.Nonce != q.Nonce {
		t.Fatalf("the further request is %s, %v, not %s", show(m), err, show(q))
	}
	if got.Ticket.Server != a.ticket.Server || got.Ticket.Kvno != a.ticket.Kvno || !bytes.Equal(got.Ticket.Blob, a.ticket.Blob) {
		t.Errorf("the further request is with %s, not %s", show(got.Ticket), show(a.ticket))
	}
	inner, sealErr := seal.New(a.part.Session).Open(7, got.Authn)
	authn, formErr := msg.DecodeAuthn(inner)
	if sealErr != api.OK || formErr != api.OK || authn != (api.Authn{Client: joe, Time: now}) || !bytes.Equal(got.Authn[:8], []byte{7: byte(nonce)}) {
		t.Errorf("the authenticator is %s (%v, %v) of nonce %x, not of %d at %d", show(authn), sealErr, formErr, got.Authn[:8], nonce, now)
	}
}

// P12.1: the first request with an empty Cache, with the first ticket there, at
// its End, and behind it; and when now goes back.
func TestFirstRequest(t *testing.T) {
	for _, end := range []int{20, 21, 500, 1<<30 - 1, 1 << 30} {
		for _, now := range []int{0, 19, 20, 21, 22, 499, 500, 501, 1<<30 - 1, 1 << 30} {
			w := watched(t)
			if _, b, _ := w.chase(web, 20); b[0] != 0x6a {
				t.Errorf("with an empty Cache the first request is %x", b)
			}
			w.get(own, end, 20)
			w.fail(api.ErrExpired, 20)
			want := byte(0x6c)
			if end < now {
				want = 0x6a
			}
			realm, b, err := w.chase(web, now)
			if realm != "A.EDU" || err != api.OK || b[0] != want {
				t.Errorf("with a first ticket to %d the first request at %d is to %q, %x, %v", end, now, realm, b, err)
			}
			w.fail(api.ErrExpired, now)
			if _, b, _ := w.chase(web, 20); b[0] != 0x6c {
				t.Errorf("when now goes back the first request is %x", b)
			}
		}
	}
}

// P12.1: tickets of other servers, however alike, are no first ticket.
func TestFirstRequestWithOtherTickets(t *testing.T) {
	for _, other := range []api.Princ{princ("B.EDU", "krbtgt/A.EDU"), toEdu, princ("EDU", "krbtgt/EDU"), princ("A.EDU", "krbtgt/B.EDU"), princ("/A/EDU", "krbtgt/A.EDU"), princ("A.EDU", "krbtgt//A/EDU"), mail, web} {
		w := watched(t)
		w.chase(web, 20)
		w.get(own, 30, 20)
		w.get(other, 500, 20)
		if w.state == 1 {
			w.fail(api.ErrServer, 20)
		}
		if _, b, _ := w.chase(mail, 31); b[0] != 0x6a {
			t.Errorf("with a ticket of %s the first request is %x", show(other), b)
		}
		w.get(own, 600, 31)
		w.fail(api.ErrServer, 31)
		// A newer first ticket takes the elder one's place.
		w.chase(mail, 31)
		a := w.fitting(own)
		a.part.End = 550
		w.take(a.bytes(), 31)
		w.wantState(3, api.ErrLoop, 1)
		_, b, _ := w.chase(mail, 550)
		wantFurther(t, b, a, api.TgsReq{Server: mail, Till: 1550, Nonce: w.nonces}, w.seals, 550)
	}
}

// waits are watches with a request out: the first one, a further one, and one to
// another realm. Each has a ticket or two by then.
func waits(t *testing.T) []*watch {
	t.Helper()
	l := []*watch{watched(t), watched(t), watched(t)}
	for i, w := range l {
		w.fetch(mail, 300, 20)
		if i == 0 {
			w.chase(web, 301)
			continue
		}
		w.chase(web, 40)
		if i == 2 {
			w.get(toEdu, 400, 41)
		}
	}
	return l
}

// server is one whose ticket would lead on, or end the chase well.
func (w *watch) server() api.Princ {
	if w.use == 3 {
		return w.own()
	}
	return w.target
}

// A spoil is what makes an answer none.
type spoil struct {
	name string
	do   func(a *answer)
}

func spoils() []spoil {
	var l []spoil
	add := func(name string, do func(a *answer)) { l = append(l, spoil{name, do}) }
	for _, p := range []api.Princ{princ("A.EDU", "jo"), princ("A.EDU", "joee"), princ("EDU", "joe"), princ("/A/EDU", "joe"), princ("B.EDU", "joe"), web, own, mail, princ("A.EDU", "krbtgt/EDU")} {
		add("another client: "+show(p), func(a *answer) { a.client = p })
	}
	for i := range 32 {
		add("a turned key", func(a *answer) { a.lock[i] ^= 1 << (i % 8) })
	}
	for _, k := range []api.Key{{}, keyOf(0), keyOf(2), keyOf(999), keyOf(5000)} {
		add("another key", func(a *answer) { a.lock = k })
	}
	for _, use := range []int{0, 1, 2, 3, 4, 7, 8, 9, 11, 255} {
		add("another usage", func(a *answer) {
			if a.use == use {
				use = 5
			}
			a.use = use
		})
	}
	for _, n := range []int{-1, 1, 2, 256, 1 << 16} {
		add("another nonce", func(a *answer) { a.part.Nonce += n })
	}
	for _, n := range []int{0, 1 << 30} {
		add("a far nonce", func(a *answer) { a.part.Nonce = n })
	}
	for _, p := range []api.Princ{joe, own, toEdu, toB, web, mail, princ("B.EDU", "we"), princ("B.EDU", "webb"), princ("EDU", "web"), princ("/B/EDU", "web"), princ("EDU", "krbtgt/A.EDU")} {
		add("a ticket of "+show(p), func(a *answer) {
			if a.ticket.Server == p {
				p = princ("B.EDU", "shop")
			}
			a.ticket.Server = p
		})
		add("told to be of "+show(p), func(a *answer) {
			if a.part.Server == p {
				p = princ("B.EDU", "shop")
			}
			a.part.Server = p
		})
	}
	authn := mustBytes(msg.EncodeAuthn(api.Authn{Client: joe, Time: 20}))
	part := mustBytes(msg.EncodePart(api.Part{Client: joe, End: 500}))
	for _, b := range [][]byte{{}, {0}, []byte("joe"), authn, part, failed(3, 1), make([]byte, 784)} {
		add("seals what is none", func(a *answer) { a.inner = b })
	}
	add("seals one cut", func(a *answer) { b := mustBytes(msg.EncodeRep(a.part)); a.inner = b[:len(b)-1] })
	add("seals one with a byte behind", func(a *answer) { a.inner = append(mustBytes(msg.EncodeRep(a.part)), 0) })
	add("seals two", func(a *answer) { b := mustBytes(msg.EncodeRep(a.part)); a.inner = slices.Concat(b, b) })
	for _, n := range []int{1, 15, 16, 17, 100, 800} {
		add("seals nothing", func(a *answer) { a.blob = bytes.Repeat([]byte{0x30}, n) })
	}
	add("is not sealed", func(a *answer) { a.blob = mustBytes(msg.EncodeRep(a.part)) })
	add("the ticket's bytes", func(a *answer) { a.blob = a.ticket.Blob })
	return l
}

// P12.2: answers that are none change nothing, neither State nor what was got nor
// a nonce: behind them the right one goes on as it would have.
func TestAnswersThatAreNone(t *testing.T) {
	for _, w := range waits(t) {
		before := *w
		for i := range spoils() {
			// Each time with a spoil of its own, as some look at the answer.
			s, a := spoils()[i], w.fitting(w.server())
			s.do(&a)
			if realm, b := w.take(a.bytes(), 42); realm != "" || len(b) != 0 {
				t.Fatalf("an answer that is none (%s) leads to %q, %x", s.name, realm, b)
			}
			if w.state != 1 || w.sent != before.sent || w.nonces != before.nonces || w.seals != before.seals {
				t.Fatalf("the model takes an answer that is none: %s", s.name)
			}
		}
		w.wantState(1, 0, before.sent)
		w.get(w.server(), 900, 301)
		if before.use == 3 {
			w.wantState(1, 0, 2)
		} else {
			w.wantState(2, 0, before.sent)
		}
	}
}

// otherMessages are messages that are neither a Rep nor a Fail, and bytes that
// are no message.
func otherMessages(w *watch) [][]byte {
	t := api.Ticket{Server: w.server(), Kvno: 1, Blob: []byte{1}}
	good, fail := w.fitting(w.server()).bytes(), failed(3, w.nonce)
	l := [][]byte{
		nil, {}, {0}, {0x6b}, {0x7e}, []byte("junk"), {0x6b, 0}, {0x7e, 0}, make([]byte, 2000), make([]byte, 1<<20),
		mustBytes(msg.Encode(api.Msg{Kind: 1, AsReq: api.AsReq{Client: joe, Server: own, Till: 9, Nonce: w.nonce}})),
		mustBytes(msg.Encode(api.Msg{Kind: 2, TgsReq: api.TgsReq{Ticket: t, Authn: []byte{1}, Server: web, Till: 9, Nonce: w.nonce}})),
		mustBytes(msg.Encode(api.Msg{Kind: 4, ApReq: api.ApReq{Ticket: t, Authn: []byte{1}}})),
		mustBytes(msg.EncodeRep(api.RepPart{Server: w.server(), Nonce: w.nonce})),
		append(slices.Clone(good), 0), append([]byte{0}, good...), slices.Concat(good, good), slices.Concat(fail, good), slices.Concat(good, fail),
		append(slices.Clone(fail), 0), slices.Concat(fail, fail), {0x7e, 6, 2, 1, 0, 2, 1, byte(w.nonce)}, {0x7e, 7, 2, 2, 1, 0, 2, 1, byte(w.nonce)},
		{0x7e, 0x81, 6, 2, 1, 3, 2, 1, byte(w.nonce)}, {0x7e, 7, 2, 1, 3, 2, 2, 0, byte(w.nonce)},
	}
	for i := range good {
		l = append(l, good[:i])
	}
	for i := range fail {
		l = append(l, fail[:i])
	}
	return l
}

// P12.2, P0.5: bytes that are no message, and messages of other kinds, are
// nothing; so is one's own request.
func TestOtherMessages(t *testing.T) {
	for _, w := range waits(t) {
		sent, nonces := w.sent, w.nonces
		for _, b := range otherMessages(w) {
			if realm, c := w.take(b, 42); realm != "" || len(c) != 0 {
				t.Fatalf("%x leads to %q, %x", b, realm, c)
			}
		}
		w.wantState(1, 0, sent)
		if w.nonces != nonces {
			t.Fatal("the model takes what is none")
		}
		w.get(w.server(), 900, 301)
	}
	w := watched(t)
	_, b, _ := w.chase(web, 20)
	w.take(b, 20)
	_, b = w.get(own, 500, 20)
	w.take(b, 20)
	w.wantState(1, 0, 2)
}

// P12.2: each bit of an answer, turned: it is nothing then, but where it is of
// the ticket's number or bytes, which nothing seals here.
func TestEachBit(t *testing.T) {
	for i := range 3 {
		good := waits(t)[i]
		a := good.fitting(good.server())
		a.ticket.Kvno, a.ticket.Blob = 1, []byte("blob")
		b := a.bytes()
		taken := 0
		for bit := range 8 * len(b) {
			w := good
			c := slices.Clone(b)
			c[bit/8] ^= 1 << (bit % 8)
			m, err := msg.Decode(c)
			if err == api.OK && m.Kind == 3 && m.Rep.Ticket.Server == a.ticket.Server && m.Rep.Client == joe && opens(m.Rep, a) {
				// It is taken: by one that is not needed for the next bit.
				w = waits(t)[i]
				taken++
			}
			before := w.sent
			w.take(c, 42)
			if w == good && (w.state != 1 || w.sent != before) {
				t.Fatalf("with bit %d turned an answer is taken", bit)
			}
		}
		// Of the number 1 there are 3, 5, 9, 17, 33 and 65 by one bit.
		if taken != 8*len("blob")+6 {
			t.Errorf("of all answers with a bit turned %d are taken", taken)
		}
		good.take(b, 42)
		if good.use == 3 {
			t.Error("the right one is not taken")
		}
	}
}

// opens tells whether what is sealed stayed as it was.
func opens(r api.Rep, a answer) bool {
	b, err := seal.New(a.lock).Open(a.use, r.Blob)
	return err == api.OK && bytes.Equal(b, mustBytes(msg.EncodeRep(a.part)))
}

// P12.2: a Fail of the Nonce that is out, with each error; of any other Nonce it
// is nothing.
func TestFails(t *testing.T) {
	for i := range 3 {
		for err := range 255 {
			w := waits(t)[i]
			sent := w.sent
			for _, nonce := range []int{0, w.nonce - 1, w.nonce + 1, w.nonce + 256, -w.nonce & (1<<30 - 1), 1 << 30} {
				if realm, b := w.take(failed(api.Errno(err+1), nonce), 42); realm != "" || len(b) != 0 {
					t.Errorf("a Fail of another Nonce leads to %q, %x", realm, b)
				}
				w.wantState(1, 0, sent)
			}
			if realm, b := w.take(failed(api.Errno(err+1), w.nonce), 42); realm != "" || len(b) != 0 {
				t.Errorf("a Fail leads to %q, %x", realm, b)
			}
			w.wantState(3, api.Errno(err+1), sent)
			if err > 16 {
				w.quick = true
			}
			w.take(failed(1, w.nonce), 42)
			w.get(w.target, 500, 42)
			w.quick = false
			w.wantState(3, api.Errno(err+1), sent)
			w.chase(web, 42)
			w.wantState(1, 0, 1)
		}
	}
}

// P12.2: Take when no chase goes, of answers that would have been right: nothing.
func TestTakeWhenNoChaseGoes(t *testing.T) {
	for name, w := range inStates(t) {
		if w.state == 1 {
			continue
		}
		state, err, sent := w.client.State()
		for _, p := range []api.Princ{own, toEdu, web, mail} {
			for _, nonce := range []int{w.nonce, w.nonce + 1, 0, 1} {
				for _, lock := range []api.Key{w.key, w.lock} {
					for _, use := range []int{3, 8} {
						a := w.fitting(p)
						a.part.Nonce, a.lock, a.use = nonce, lock, use
						if realm, b := w.take(a.bytes(), 42); realm != "" || len(b) != 0 {
							t.Fatalf("%s: Take leads to %q, %x", name, realm, b)
						}
						w.take(failed(5, nonce), 42)
					}
				}
			}
		}
		w.wantState(state, err, sent)
	}
}

// P12.2: Take at times that may not be is nothing, of a Fail and of a Rep; at 0
// and at MaxTime it is as ever.
func TestTakeTimes(t *testing.T) {
	for i, w := range waits(t) {
		sent := w.sent
		for _, now := range unfitTimes() {
			if realm, b := w.get(w.server(), 500, now); realm != "" || len(b) != 0 {
				t.Errorf("Take at %d leads to %q, %x", now, realm, b)
			}
			w.take(failed(9, w.nonce), now)
			w.wantState(1, 0, sent)
		}
		for _, now := range []int{0, 1 << 30} {
			w := waits(t)[i]
			w.get(w.server(), 500, now)
			w = waits(t)[i]
			w.fail(9, now)
			w.wantState(3, 9, sent)
		}
	}
	for _, now := range []int{0, 1, 1<<30 - 1000, 1<<30 - 999, 1 << 30} {
		w := watched(t)
		w.chase(web, 20)
		a := w.fitting(own)
		_, b := w.take(a.bytes(), now)
		wantFurther(t, b, a, api.TgsReq{Server: web, Till: min(now+1000, 1<<30), Nonce: 2}, 1, now)
	}
}

// P12.2: what a ticket lasts is what the answer tells, whatever was asked for and
// whatever its Start; one that has ended already leads on all the same.
func TestWhatIsGot(t *testing.T) {
	for _, part := range []struct{ start, end int }{{20, 500}, {0, 0}, {1 << 30, 0}, {0, 1 << 30}, {1 << 30, 1 << 30}, {500, 20}, {20, 41}, {20, 42}, {20, 43}} {
		for i := range 3 {
			w := waits(t)[i]
			a := w.fitting(w.server())
			a.part.Start, a.part.End = part.start, part.end
			realm, _ := w.take(a.bytes(), 42)
			if first := i == 0; (realm == "A.EDU") != first || w.state == 3 {
				t.Errorf("a ticket from %d to %d leads to %q, %d", part.start, part.end, realm, w.state)
			}
			want := api.Cred{Ticket: a.ticket, Session: a.part.Session, End: part.end}
			if x, ok := w.client.Cred(a.ticket.Server, part.end); !ok || !same(x, want) {
				t.Errorf("what was got is %s, %v, not %s", show(x), ok, show(want))
			}
			if x, ok := w.client.Cred(a.ticket.Server, part.end+1); ok {
				t.Errorf("what has ended is %s", show(x))
			}
		}
	}
	// The greatest numbers and bytes that a ticket may have.
	w := watched(t)
	w.chase(web, 20)
	a := w.fitting(own)
	a.ticket.Kvno, a.ticket.Blob = 255, bytes.Repeat([]byte{0xff}, 800)
	if _, b := w.take(a.bytes(), 20); len(b) < 800 {
		t.Errorf("a ticket of 800 bytes leads to %x", b)
	}
}

// P12.2, P12.4: a ticket of each server, as the answer to each request: whether
// the chase goes on, is done, has failed, and how many were sent.
func TestTicketsOfEachServer(t *testing.T) {
	other := princ("B.EDU", "shop")
	for _, c := range []struct {
		at     int // the place in waits
		server api.Princ
		realm  string
		state  int
		err    api.Errno
		sent   int
	}{
		// To the request for a first ticket: that, the target's, no other one.
		{0, own, "A.EDU", 1, 0, 2},
		{0, web, "", 2, 0, 1},
		{0, toEdu, "", 3, api.ErrMatch, 1},
		{0, toB, "", 3, api.ErrMatch, 1},
		{0, princ("B.EDU", "krbtgt/A.EDU"), "", 3, api.ErrMatch, 1},
		{0, princ("/A/EDU", "krbtgt/A.EDU"), "", 3, api.ErrMatch, 1},
		{0, princ("A.EDU", "krbtgt//A/EDU"), "", 3, api.ErrMatch, 1},
		{0, princ("EDU", "krbtgt/EDU"), "", 3, api.ErrMatch, 1},
		{0, mail, "", 3, api.ErrMatch, 1},
		{0, joe, "", 3, api.ErrMatch, 1},
		{0, other, "", 3, api.ErrMatch, 1},
		{0, princ("A.EDU", "krbtgt"), "", 3, api.ErrMatch, 1},
		// To one's own realm's: any realm but that.
		{1, web, "", 2, 0, 1},
		{1, toEdu, "EDU", 1, 0, 2},
		{1, toB, "B.EDU", 1, 0, 2},
		{1, princ("/COM", "krbtgt//COM/HP"), "/COM/HP", 1, 0, 2},
		{1, princ("A.EDU", "krbtgt//A/EDU"), "/A/EDU", 1, 0, 2},
		{1, own, "", 3, api.ErrLoop, 1},
		{1, princ("EDU", "krbtgt/A.EDU"), "", 3, api.ErrLoop, 1},
		{1, mail, "", 3, api.ErrMatch, 1},
		{1, joe, "", 3, api.ErrMatch, 1},
		{1, other, "", 3, api.ErrMatch, 1},
		{1, princ("A.EDU", "web"), "", 3, api.ErrMatch, 1},
		{1, princ("B.EDU", "krbtgt"), "", 3, api.ErrMatch, 1},
		// To the second realm's: any realm but these two.
		{2, web, "", 2, 0, 2},
		{2, toB, "B.EDU", 1, 0, 3},
		{2, princ("A.EDU", "krbtgt/B.EDU"), "B.EDU", 1, 0, 3},
		{2, princ("EDU", "krbtgt/EDU.EDU"), "EDU.EDU", 1, 0, 3},
		{2, own, "", 3, api.ErrLoop, 2},
		{2, toEdu, "", 3, api.ErrLoop, 2},
		{2, princ("EDU", "krbtgt/EDU"), "", 3, api.ErrLoop, 2},
		{2, princ("EDU", "krbtgt/A.EDU"), "", 3, api.ErrLoop, 2},
		{2, princ("B.EDU", "krbtgt/EDU"), "", 3, api.ErrLoop, 2},
		{2, other, "", 3, api.ErrMatch, 2},
		{2, mail, "", 3, api.ErrMatch, 2},
	} {
		w := waits(t)[c.at]
		a := w.fitting(c.server)
		realm, b := w.take(a.bytes(), 302)
		if realm != c.realm || (len(b) > 0) != (c.realm != "") {
			t.Errorf("to request %d a ticket of %s leads to %q, %x", c.at, show(c.server), realm, b)
		}
		w.wantState(c.state, c.err, c.sent)
		// It was got, whatever became of the chase.
		if x, ok := w.client.Cred(c.server, 302); !ok || !same(x, api.Cred{Ticket: a.ticket, Session: a.part.Session, End: 500}) {
			t.Errorf("to request %d a ticket of %s is %s, %v", c.at, show(c.server), show(x), ok)
		}
	}
}

// realmAt is another realm for each number.
func realmAt(n int) string { return "R" + strings.Repeat("A", n%7) + "." + string(rune('A'+n/7)) }

// P12.2, P12.4: MaxHops realms and one more may be visited, with a first ticket
// that is asked for and one that is there: sent is at most MaxHops and 2.
func TestMaxHops(t *testing.T) {
	for _, there := range []int{0, 1} {
		for hops := range 8 {
			w := watched(t)
			if there == 1 {
				w.fetch(mail, 500, 20)
			}
			w.chase(web, 20)
			if there == 0 {
				w.get(own, 500, 20)
			}
			for i := range hops {
				realm, _ := w.get(princ("EDU", "krbtgt/"+realmAt(i)), 500, 20)
				if i < 5 && realm != realmAt(i) {
					t.Fatalf("hop %d leads to %q", i, realm)
				}
				if i == 5 {
					w.wantState(3, api.ErrHops, 7-there)
				}
			}
			if hops > 5 {
				if x, ok := w.client.Cred(princ("EDU", "krbtgt/"+realmAt(5)), 500); !ok || x.End != 500 {
					t.Errorf("the ticket that leads too far is %s, %v", show(x), ok)
				}
				continue
			}
			w.wantState(1, 0, hops+2-there)
			w.get(web, 500, 20)
			w.wantState(2, 0, hops+2-there)
		}
	}
}

// P12.2: where all that may be visited are, a realm that was visited is ErrLoop
// still, the target's ticket is got, and another one's is ErrMatch.
func TestBehindMaxHops(t *testing.T) {
	for _, c := range []struct {
		server api.Princ
		state  int
		err    api.Errno
	}{
		{web, 2, 0}, {mail, 3, api.ErrMatch}, {own, 3, api.ErrLoop}, {princ("EDU", "krbtgt/A.EDU"), 3, api.ErrLoop}, {princ("EDU", "krbtgt/"+realmAt(0)), 3, api.ErrLoop},
		{princ("C", "krbtgt/"+realmAt(4)), 3, api.ErrLoop}, {princ("EDU", "krbtgt/"+realmAt(5)), 3, api.ErrHops}, {toEdu, 3, api.ErrHops},
	} {
		w := watched(t)
		w.chase(web, 20)
		w.get(own, 500, 20)
		for i := range 5 {
			w.get(princ("EDU", "krbtgt/"+realmAt(i)), 500, 20)
		}
		w.wantState(1, 0, 7)
		w.get(c.server, 500, 20)
		w.wantState(c.state, c.err, 7)
	}
}

// filled is a watch with ten tickets, the first one among them, and a chase that
// goes; those in ends end then, the others at 500.
func filled(t *testing.T, ends ...int) *watch {
	t.Helper()
	w := watched(t)
	for i := range 9 {
		end := 500
		if i < len(ends) {
			end = ends[i]
		}
		p := princ("A.EDU", "svc"+string(rune('0'+i)))
		w.chase(p, 20)
		if i == 0 {
			w.get(own, 500, 20)
		}
		w.get(p, end, 20)
	}
	w.chase(web, 20)
	if len(w.has) != 10 || w.state != 1 {
		t.Fatalf("there are %d, and the state is %d", len(w.has), w.state)
	}
	return w
}

// P12.2: a ticket that the Cache can not take: ErrFull, whoever's it is; what was
// got stays. There is room where the principal has one, and where one has ended.
func TestFullCache(t *testing.T) {
	for _, p := range []api.Princ{web, toEdu, mail, joe, princ("EDU", "krbtgt/A.EDU")} {
		for _, now := range []int{0, 20, 500} {
			w := filled(t)
			if realm, b := w.get(p, 900, now); realm != "" || len(b) != 0 {
				t.Errorf("a ticket that can not be taken leads to %q, %x", realm, b)
			}
			w.wantState(3, api.ErrFull, 1)
			if x, ok := w.client.Cred(p, 20); ok {
				t.Errorf("what can not be taken is %s", show(x))
			}
			// The next chase goes with what is there.
			if _, b, err := w.chase(mail, now); err != api.OK || b[0] != 0x6c {
				t.Errorf("behind ErrFull Chase is %x, %v", b, err)
			}
		}
		w := filled(t)
		w.get(p, 900, 501)
		if w.err == api.ErrFull || len(w.has) != 1 {
			t.Errorf("behind all Ends a ticket of %s is %v, among %d", show(p), w.err, len(w.has))
		}
	}
	for _, c := range []struct {
		server api.Princ
		err    api.Errno
	}{{own, api.ErrLoop}, {princ("A.EDU", "svc0"), api.ErrMatch}} {
		w := filled(t)
		w.get(c.server, 900, 20)
		w.wantState(3, c.err, 1)
	}
	w := filled(t, 30, 31, 32)
	w.get(toEdu, 900, 30)
	w.wantState(3, api.ErrFull, 1)
	w = filled(t, 30, 31, 32)
	w.get(toEdu, 900, 31)
	w.wantState(1, 0, 2)
	w.get(toB, 900, 31)
	w.wantState(3, api.ErrFull, 2)
	w = filled(t, 30, 31, 32)
	w.get(toEdu, 900, 31)
	w.get(toB, 900, 32)
	w.get(web, 900, 33)
	w.wantState(2, 0, 3)
}

// P12.3: Ask without a ticket, with one, at its End and behind it, of each kind
// of principal, at times that may not be; what errs takes no Seq and no nonce.
func TestAsk(t *testing.T) {
	w := watched(t)
	wantErr := func(p api.Princ, now int, want api.Errno) {
		t.Helper()
		if b, err := w.ask(p, now); err != want || (len(b) > 0) != (want == api.OK) {
			t.Errorf("Ask(%s, %d) is %x, %v, not %v", show(p), now, b, err, want)
		}
	}
	none := slices.Concat(unfitPrincs(), realmServers(), fitParties())
	for _, p := range none {
		wantErr(p, 20, api.ErrKey)
		wantErr(p, -1, api.ErrArg)
	}
	w.fetch(web, 300, 20)
	for _, p := range none {
		if p != web && p != own {
			wantErr(p, 20, api.ErrKey)
		}
	}
	for _, now := range unfitTimes() {
		wantErr(web, now, api.ErrArg)
		wantErr(mail, now, api.ErrArg)
	}
	for _, c := range []struct {
		now int
		err api.Errno
	}{{0, 0}, {19, 0}, {20, 0}, {299, 0}, {300, 0}, {301, api.ErrKey}, {1 << 30, api.ErrKey}, {300, 0}, {0, 0}} {
		wantErr(web, c.now, c.err)
	}
	wantErr(own, 300, api.OK)
	if w.seqs != 8 {
		t.Errorf("Seqs were counted to %d", w.seqs)
	}
}

// P12.3: what an Ask sends: the ticket, and an authenticator of now and of the
// next Seq, in each state; requests have none.
func TestWhatIsAsked(t *testing.T) {
	w := watched(t)
	w.chase(web, 20)
	w.get(own, 500, 20)
	a := w.fitting(toEdu)
	a.part.End = 1 << 30
	w.take(a.bytes(), 20)
	for i := range 12 {
		now := []int{0, 20, 30, 1 << 30}[i%4]
		b, err := w.ask(toEdu, now)
		m, formErr := msg.Decode(b)
		if err != api.OK || formErr != api.OK || m.Kind != 4 || m.ApReq.Ticket.Server != toEdu || m.ApReq.Ticket.Kvno != a.ticket.Kvno || !bytes.Equal(m.ApReq.Ticket.Blob, a.ticket.Blob) {
			t.Fatalf("Ask is %s, %v", show(m), err)
		}
		inner, sealErr := seal.New(a.part.Session).Open(11, m.ApReq.Authn)
		authn, _ := msg.DecodeAuthn(inner)
		if sealErr != api.OK || authn != (api.Authn{Client: joe, Time: now, Seq: i + 1}) {
			t.Errorf("the authenticator is %s, %v", show(authn), sealErr)
		}
		// Seals' nonces go on with each request too, Seqs don't; nonces don't with Asks.
		switch i {
		case 3:
			w.get(web, 300, 21)
		case 5:
			w.chase(mail, 22)
		case 8:
			w.fail(6, 22)
		case 10:
			w.chase(mail, 501)
		}
	}
	if w.seqs != 12 || w.seals != 15 || w.nonces != 5 {
		t.Errorf("there are %d Seqs, %d seals, %d nonces", w.seqs, w.seals, w.nonces)
	}
	w.wantState(1, 0, 1)
}

// P12.3: Cred of each principal that was got, at each time, of others none.
func TestCred(t *testing.T) {
	w := watched(t)
	w.chase(web, 20)
	l := []api.Princ{own, toEdu, toB, princ("B.EDU", "krbtgt//COM"), web}
	var creds []api.Cred
	for i, p := range l {
		a := w.fitting(p)
		a.part.End = 100 + 10*i
		w.take(a.bytes(), 20)
		creds = append(creds, api.Cred{Ticket: a.ticket, Session: a.part.Session, End: 100 + 10*i})
		for j, q := range l {
			for _, now := range slices.Concat(unfitTimes(), []int{0, 20, 99 + 10*j, 100 + 10*j, 101 + 10*j, 1 << 30}) {
				want := j <= i && now <= 100+10*j
				x, ok := w.client.Cred(q, now)
				if ok != want || !want && !same(x, api.Cred{}) || want && !same(x, creds[j]) {
					t.Errorf("behind %d tickets Cred(%s, %d) is %s, %v", i+1, show(q), now, show(x), ok)
				}
			}
		}
	}
	for _, p := range slices.Concat(unfitPrincs(), fitParties()) {
		if x, ok := w.client.Cred(p, 0); p != web && (ok || !same(x, api.Cred{})) {
			t.Errorf("Cred(%s) is %s", show(p), show(x))
		}
	}
}

// P12.4, W8: of a nil Client Chase and Ask answer ErrArg, all else nothing.
func TestNilClient(t *testing.T) {
	var c *client.Client
	w := watched(t)
	w.chase(web, 20)
	for range 2 {
		for _, now := range append(unfitTimes(), 0, 20, 1<<30) {
			for _, p := range slices.Concat(fitParties(), realmServers(), unfitPrincs()) {
				if realm, b, err := c.Chase(p, now); realm != "" || b != nil || err != api.ErrArg {
					t.Errorf("Chase of a nil Client is %q, %x, %v", realm, b, err)
				}
				if b, err := c.Ask(p, now); b != nil || err != api.ErrArg {
					t.Errorf("Ask of a nil Client is %x, %v", b, err)
				}
				if x, ok := c.Cred(p, now); ok || !same(x, api.Cred{}) {
					t.Errorf("Cred of a nil Client is %s, %v", show(x), ok)
				}
			}
			for _, b := range [][]byte{nil, {}, failed(1, 1), w.fitting(own).bytes()} {
				if realm, q := c.Take(b, now); realm != "" || q != nil {
					t.Errorf("Take of a nil Client is %q, %x", realm, q)
				}
			}
		}
		if state, err, sent := c.State(); state != 0 || err != 0 || sent != 0 {
			t.Errorf("State of a nil Client is %d, %v, %d", state, err, sent)
		}
	}
}

// W1: a Client that New didn't make ends all it is asked.
func TestAClientOfNothing(t *testing.T) {
	var c client.Client
	w := watched(t)
	w.chase(web, 20)
	for range 3 {
		c.Ask(web, 20)
		c.Cred(web, 20)
		c.Take(w.fitting(own).bytes(), 20)
		c.Chase(web, 20)
		c.Take(failed(1, 5), 20)
		a := w.fitting(web)
		a.lock = api.Key{}
		c.Take(a.bytes(), 20)
		c.State()
	}
	if b, err := c.Ask(web, 20); b != nil || err != api.ErrKey {
		t.Errorf("Ask of a Client of nothing is %x, %v", b, err)
	}
}

// Ways: Seqs and seals' nonces are counted by many at a time: none is taken
// twice, none is lost.
func TestManyAsksAtATime(t *testing.T) {
	const workers, rounds = 8, 100
	w := watched(t)
	w.chase(web, 20)
	w.get(own, 500, 20)
	a := w.fitting(web)
	w.take(a.bytes(), 20)
	var lists [workers][][]byte
	start := make(chan struct{})
	var all sync.WaitGroup
	for worker := range workers {
		all.Go(func() {
			<-start
			for range rounds {
				b, _ := w.client.Ask(web, 20)
				lists[worker] = append(lists[worker], b)
			}
		})
	}
	close(start)
	all.Wait()
	seqs, nonces := make([]int, workers*rounds+1), make([]int, workers*rounds+2)
	for _, b := range slices.Concat(lists[:]...) {
		m, _ := msg.Decode(b)
		inner, err := seal.New(a.part.Session).Open(11, m.ApReq.Authn)
		authn, _ := msg.DecodeAuthn(inner)
		if err != api.OK || authn.Client != joe {
			t.Fatalf("of many at a time one is %s, %v", show(m), err)
		}
		seqs[authn.Seq]++
		nonces[int(m.ApReq.Authn[6])<<8|int(m.ApReq.Authn[7])]++
	}
	for i := range workers * rounds {
		if seqs[i+1] != 1 || nonces[i+2] != 1 {
			t.Fatalf("the Seq %d was taken %d times, the nonce %d %d times", i+1, seqs[i+1], i+2, nonces[i+2])
		}
	}
}

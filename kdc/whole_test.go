package kdc_test

import (
	"bytes"
	"encoding/hex"
	"math"
	"math/rand"
	"reflect"
	"slices"
	"strings"
	"sync"
	"testing"
	"unsafe"

	"legate/api"
	"legate/kdc"
	"legate/msg"
	"legate/ring"
)

// P10.1, P10.2, P0.1: a chase through three realms: each ticket is made with
// what the one ahead was answered, and the last one tells the realm between.
func TestAChase(t *testing.T) {
	topo := api.Topo{Realms: []string{"A.EDU", "EDU", "B.EDU"}, Links: [][2]string{{"A.EDU", "EDU"}, {"EDU", "B.EDU"}}}
	alice, shop := princ("A.EDU", "alice"), princ("B.EDU", "shop")
	rings := map[string]*ring.Ring{}
	add := func(realm string, p api.Princ, k api.Key) {
		if rings[realm] == nil {
			rings[realm] = ring.New()
		}
		if _, err := rings[realm].Add(p, k); err != api.OK {
			t.Fatal(err)
		}
	}
	add("A.EDU", princ("A.EDU", "krbtgt/A.EDU"), keyOf(1))
	add("A.EDU", alice, keyOf(2))
	add("A.EDU", princ("A.EDU", "krbtgt/EDU"), keyOf(3))
	add("EDU", princ("A.EDU", "krbtgt/EDU"), keyOf(3))
	add("EDU", princ("EDU", "krbtgt/B.EDU"), keyOf(4))
	add("B.EDU", princ("EDU", "krbtgt/B.EDU"), keyOf(4))
	add("B.EDU", shop, keyOf(5))
	kdcs := map[string]*kdc.Kdc{}
	for _, r := range topo.Realms {
		kdcs[r] = newKdc(t, r, topo, rings[r])
	}
	q := api.AsReq{Client: alice, Server: princ("A.EDU", "krbtgt/A.EDU"), Till: 5000, Nonce: 7}
	m, _ := msg.Decode(kdcs["A.EDU"].Handle(mustBytes(msg.Encode(api.Msg{Kind: 1, AsReq: q})), 50, keyOf(11)))
	part, beside := opened(t, m.Rep, keyOf(1), keyOf(2), 3)
	wantTold(t, part, beside, api.Part{Client: alice, Session: keyOf(11), Start: 50, End: 1050}, q.Server, 7)
	for i, step := range []struct {
		realm     string
		server    api.Princ
		key       int
		transited string
	}{
		{"A.EDU", princ("A.EDU", "krbtgt/EDU"), 3, ""},
		{"EDU", princ("EDU", "krbtgt/B.EDU"), 4, ""},
		{"B.EDU", shop, 5, "EDU"},
	} {
		now := 60 + 2*i
		authn := mustBytes(msg.EncodeAuthn(api.Authn{Client: alice, Time: now + 1}))
		q := api.TgsReq{Ticket: m.Rep.Ticket, Authn: sealed(beside.Session, 7, i+1, authn), Server: shop, Till: 5000 - i, Nonce: 8 + i}
		c := kdcs[step.realm].Handle(mustBytes(msg.Encode(api.Msg{Kind: 2, TgsReq: q})), now, keyOf(12+i))
		last := beside.Session
		m, _ = msg.Decode(c)
		part, beside = opened(t, m.Rep, keyOf(step.key), last, 8)
		want := api.Part{Client: alice, Session: keyOf(12 + i), Transited: step.transited, Start: now, End: 1050}
		wantTold(t, part, beside, want, step.server, 8+i)
		if m.Rep.Client != alice || m.Rep.Ticket.Server != step.server || m.Rep.Ticket.Kvno != 1 {
			t.Errorf("at %s the answer is %s", step.realm, show(m.Rep))
		}
	}
	for r, n := range map[string]int{"A.EDU": 2, "EDU": 1, "B.EDU": 1} {
		if kdcs[r].Issued() != n {
			t.Errorf("at %s Issued is %d", r, kdcs[r].Issued())
		}
	}
}

// P10.1, P10.2, P10.3: requests and answers as bytes that were worked out apart
// from the program, by the words of chapters 1 to 4 and 8 alone.
func TestBytesWorkedOutApart(t *testing.T) {
	r := ring.New()
	for i, p := range []api.Princ{princ("A", "krbtgt/A"), princ("A", "joe"), princ("A", "web"), princ("C", "krbtgt/A")} {
		r.Add(p, risingKey(32*i))
	}
	k := newKdc(t, "A", api.Topo{Realms: []string{"C", "A"}}, r)
	for _, c := range []struct {
		now, draw int
		asked     string
		answer    string
	}{
		// joe asks for a first ticket, Till 10, Nonce 3.
		{5, 128, "6a1f30081b01411b036a6f65300d1b01411b086b72627467742f4102010a020103",
			"6b81b430081b01411b036a6f65615a300d1b01411b086b72627467742f41020101044600000000000000019f700655f23846292534f7ad16c563b3fd" +
				"9ae0821512fe562599fa3d16f84dc90aed4797158a5f862880b8966153f091d1eb251a65ead2380b231650486b044c0000000000000002cd99c3d74f" +
				"f57cc82d29fbc1b4dacfd9030f66ce7330c10ae3ab4c9b94ad8c4f5f7d959952e28db3239227a13cbb1e9c941b1ff02b8e2734583ad8761f7ba640d8" +
				"a81d13"},
		// cal, of B, asks for web, Till 1500, Nonce 200, with a ticket that C made.
		{7, 192, "6c8193615b300d1b01431b086b72627467742f4102010104470000000000000009cb66d1a12501d139e807e976f441e9dbfc457d04d5922964df3fd4" +
			"ad6be0ea8b157163cec0fda5ccf81dc3a623e9ed2c196584f3b0e5f396382836c095399e04220000000000000004501686dec9ace87e93572bb8dbcb" +
			"8376ce0a4efaa3856927b15830081b01411b03776562020205dc020200c8",
			"6b81ae30081b01421b0363616c615730081b01411b03776562020101044800000000000000030b52ea43902d6d8191c24f601b68f8ddfb64300192a1" +
				"f6da701138fe91fe388cbf816aa8a9b558ab6557102b0ba32922197aad6d6fe919b14f6552d25613028a04490000000000000004ea034ef4190b49b7" +
				"0bce989c41ce97bab3bb88a6a9deb0e1cf19b3c54d7e4ff31b56749601e89581f4acd600b00cf3f0ae3f661882d4290a3624496e6eae7d66f3"},
	} {
		if b := k.Handle(unhex(c.asked), c.now, risingKey(c.draw)); !bytes.Equal(b, unhex(c.answer)) {
			t.Errorf("Handle of %s is %x, not %s", c.asked, b, c.answer)
		}
	}
}

// risingKey is a key of bytes that rise from that one on.
func risingKey(from int) api.Key {
	var k api.Key
	for i := range k {
		k[i] = byte(from + i)
	}
	return k
}

func unhex(s string) []byte {
	b, err := hex.DecodeString(s)
	if err != nil {
		panic(err)
	}
	return b
}

// wantTold wants that a ticket seals that, and that the same stands beside it.
func wantTold(t *testing.T, part api.Part, beside api.RepPart, want api.Part, server api.Princ, nonce int) {
	t.Helper()
	wantBeside := api.RepPart{Session: want.Session, Server: server, Start: want.Start, End: want.End, Nonce: nonce}
	if part != want || beside != wantBeside {
		t.Errorf("a ticket is of %s, %s, not of %s, %s", show(part), show(beside), show(want), show(wantBeside))
	}
}

// P10.2, P0.2: whoever has one realm's key can say what he wants of his tickets'
// way, but that realm is told.
func TestWhoHasAKeyIsTold(t *testing.T) {
	w := edu(t)
	for _, client := range []api.Princ{joe, far, princ("B.EDU", "bob"), princ("ORG", "eve"), princ("/HP/LAB", "eve")} {
		for _, transited := range []string{"", "A.EDU", "ORG, /HP", "B.EDU,A.EDU"} {
			p := goodPlan()
			p.part.Client, p.authn.Client, p.part.Transited = client, client, transited
			rep, err := w.tgs(p)
			part, _ := opened(t, rep, keyOf(keyWeb2), keyOf(900), 8)
			if err != api.OK || part.Transited != strings.TrimPrefix(transited+",COM", ",") {
				t.Errorf("of %s with %s Tgs is %v, of %s", show(client), show(transited), err, show(part.Transited))
			}
		}
	}
}

// P10.4: of a nil Kdc As and Tgs answer ErrArg, all else nothing.
func TestNilKdc(t *testing.T) {
	var k *kdc.Kdc
	bad := goodPlan()
	bad.shown, bad.target, bad.till = web, ann, -1
	for _, now := range []int{-1, 0, 100, 1 << 30, math.MaxInt} {
		for _, q := range []api.AsReq{goodAs(), {}, {Client: joe}} {
			if rep, err := k.As(q, now, keyOf(1)); err != api.ErrArg || !reflect.DeepEqual(rep, api.Rep{}) {
				t.Errorf("As of a nil Kdc is %s, %v", show(rep), err)
			}
		}
		for _, q := range []api.TgsReq{goodPlan().request(), ofRealm(goodPlan()).request(), bad.request(), {}} {
			if rep, err := k.Tgs(q, now, keyOf(1)); err != api.ErrArg || !reflect.DeepEqual(rep, api.Rep{}) {
				t.Errorf("Tgs of a nil Kdc is %s, %v", show(rep), err)
			}
		}
		for _, b := range [][]byte{
			nil, {0}, mustBytes(msg.Encode(api.Msg{Kind: 1, AsReq: goodAs()})), mustBytes(msg.Encode(api.Msg{Kind: 2, TgsReq: goodPlan().request()})),
		} {
			if c := k.Handle(b, now, keyOf(1)); len(c) != 0 {
				t.Errorf("Handle of a nil Kdc is %x", c)
			}
		}
		if n := k.Issued(); n != 0 {
			t.Errorf("Issued of a nil Kdc is %d", n)
		}
	}
}

// W1: a Kdc that New didn't make knows nobody, and ends.
func TestAKdcOfNothing(t *testing.T) {
	var k kdc.Kdc
	for range 2 {
		if rep, err := k.As(goodAs(), 100, keyOf(1)); err != api.ErrClient || !reflect.DeepEqual(rep, api.Rep{}) {
			t.Errorf("As of a Kdc of nothing is %s, %v", show(rep), err)
		}
		if rep, err := k.Tgs(goodPlan().request(), 100, keyOf(1)); err != api.ErrServer || !reflect.DeepEqual(rep, api.Rep{}) {
			t.Errorf("Tgs of a Kdc of nothing is %s, %v", show(rep), err)
		}
		if k.Handle(nil, 100, keyOf(1)) != nil || k.Issued() != 0 {
			t.Error("a Kdc of nothing answers")
		}
	}
}

// P10.3: two Kdcs of one Ring: each has its own nonces and its own Issued; the
// Boxes' Counts are of both.
func TestTwoKdcsOfOneRing(t *testing.T) {
	v := edu(t)
	w := &watch{t: t, kdc: newKdc(t, "EDU", eduTopo(), v.ring), ring: v.ring, realm: "EDU", topo: eduTopo(), next: eduNext(), keys: v.keys}
	com := &watch{t: t, kdc: newKdc(t, "COM", eduTopo(), v.ring), ring: v.ring, realm: "COM", topo: eduTopo(), keys: v.keys}
	for i := range 10 {
		for range i {
			v.as(goodAs(), 100, keyOf(500))
			v.handleTgs(goodPlan())
		}
		w.tgs(goodPlan())
		com.tgs(goodPlan())
		com.as(goodAs(), 100, keyOf(500))
		w.handleAs(goodAs(), 100, keyOf(500))
		if v.kdc.Issued() != i*(i+1) || w.kdc.Issued() != 2*i+2 || com.kdc.Issued() != 0 {
			t.Errorf("Issued are %d, %d, %d", v.kdc.Issued(), w.kdc.Issued(), com.kdc.Issued())
		}
	}
	// Both are of two realms: what one makes for the other, that one opens.
	v.add(princ("EDU", "krbtgt/COM"))
	com.keys = append(com.keys, v.keys[len(v.keys)-1])
	w.keys = com.keys
	p := ofRealm(goodPlan())
	p.target = princ("COM", "krbtgt/EDU")
	rep, err := v.tgs(p)
	if err != api.OK {
		t.Fatal(err)
	}
	_, beside := opened(t, rep, v.last(toCom).key, keyOf(900), 8)
	authn := mustBytes(msg.EncodeAuthn(api.Authn{Client: joe, Time: 100}))
	q := api.TgsReq{Ticket: rep.Ticket, Authn: sealed(beside.Session, 7, 1, authn), Server: princ("COM", "krbtgt/EDU"), Till: 300, Nonce: 5}
	if rep, err := com.kdc.Tgs(q, 100, keyOf(501)); err != api.OK || rep.Ticket.Server != fromCom || com.kdc.Issued() != 1 || nonceOf(rep.Blob) != 2 {
		t.Errorf("Tgs of another Kdc's ticket is %s, %v, and Issued %d", show(rep), err, com.kdc.Issued())
	}
}

// turning is a text of bytes that can be turned.
func turning(s string, all *[][]byte) string {
	b := []byte(s)
	*all = append(*all, b)
	return unsafe.String(unsafe.SliceData(b), len(b))
}

func turn(all [][]byte) {
	for _, b := range all {
		for i := range b {
			b[i] = 'z'
		}
	}
}

// turningTopo is eduTopo with a Path, of texts and lists that can be turned.
func turningTopo(all *[][]byte) api.Topo {
	var t api.Topo
	for _, r := range eduTopo().Realms {
		t.Realms = append(t.Realms, turning(r, all))
	}
	for _, l := range eduTopo().Links {
		t.Links = append(t.Links, [2]string{turning(l[0], all), turning(l[1], all)})
	}
	t.Paths = []api.Path{{From: turning("EDU", all), To: turning("B.EDU", all), Via: []string{turning("COM", all), turning("A.EDU", all)}}}
	return t
}

// P10.4, W6: what is handed in to New is neither changed nor kept.
func TestNothingOfNewIsKept(t *testing.T) {
	w := edu(t)
	var all [][]byte
	topo, want := turningTopo(&all), turningTopo(new([][]byte))
	realm := turning("EDU", &all)
	k := newKdc(t, realm, topo, w.ring)
	if !reflect.DeepEqual(topo, want) || realm != "EDU" {
		t.Errorf("New made %s, %s of what was handed in", show(topo), show(realm))
	}
	turn(all)
	for i := range topo.Realms {
		topo.Realms[i] = "ORG"
	}
	for i := range topo.Links {
		topo.Links[i] = [2]string{"ORG", "ORG"}
	}
	topo.Paths[0].Via[0] = "ORG"
	topo.Paths[0] = api.Path{}
	rep, err := k.As(goodAs(), 100, keyOf(500))
	if err != api.OK || rep.Ticket.Server != own {
		t.Errorf("behind changed texts As is %s, %v", show(rep), err)
	}
	for _, to := range []struct {
		target api.Princ
		server api.Princ
		err    api.Errno
	}{
		{princ("B.EDU", "web"), toCom, api.OK}, {princ("A.EDU", "web"), toA, api.OK}, {princ("Q.COM", "web"), toCom, api.OK}, {web, web, api.OK},
		{princ("/HP/LAB", "web"), api.Princ{}, api.ErrRoute}, {princ("ORG", "web"), api.Princ{}, api.ErrRoute},
	} {
		p := goodPlan()
		p.target = to.target
		if rep, err := k.Tgs(p.request(), 100, keyOf(500)); err != to.err || rep.Ticket.Server != to.server {
			t.Errorf("behind changed texts a ticket to %s is for %s, %v", show(to.target), show(rep.Ticket.Server), err)
		}
	}
}

// roomy is bytes with spare room behind them.
func roomy(b []byte) []byte {
	c := append(slices.Clone(b), "what stands behind"...)
	return c[:len(b):len(c)]
}

// P10.4, W6, W7: what is handed in to As and Tgs is neither changed nor kept;
// what they answer is new memory, and stays what it is.
func TestNothingOfRequestsIsKept(t *testing.T) {
	w := edu(t)
	var reps, wants []api.Rep
	for range 3 {
		for _, target := range []api.Princ{web, princ("A.EDU", "web")} {
			var all [][]byte
			q := goodAs()
			q.Client, q.Server = princ(turning("EDU", &all), turning("joe", &all)), princ(turning("EDU", &all), turning("krbtgt/EDU", &all))
			p := goodPlan()
			p.target = target
			r := p.request()
			r.Ticket.Server = princ(turning("COM", &all), turning("krbtgt/EDU", &all))
			r.Server = princ(turning(target.Realm, &all), turning("web", &all))
			r.Ticket.Blob, r.Authn = roomy(r.Ticket.Blob), roomy(r.Authn)
			want, wantErr := w.modelAs(goodAs(), 100, keyOf(500))
			rep, err := w.kdc.As(q, 100, keyOf(500))
			w.wantRep("As", rep, err, want, wantErr)
			reps, wants = append(reps, rep), append(wants, want)
			want, wantErr = w.modelTgs(p)
			rep, err = w.kdc.Tgs(r, 100, keyOf(500))
			w.wantRep("Tgs", rep, err, want, wantErr)
			reps, wants = append(reps, rep), append(wants, want)
			if q != goodAs() || !reflect.DeepEqual(r, p.request()) || string(r.Ticket.Blob[:cap(r.Ticket.Blob)][len(r.Ticket.Blob):]) != "what stands behind" ||
				string(r.Authn[:cap(r.Authn)][len(r.Authn):]) != "what stands behind" {
				t.Errorf("what was handed in became %s, %s", show(q), show(r))
			}
			turn(append(all, r.Ticket.Blob, r.Authn))
			if !reflect.DeepEqual(reps, wants) {
				t.Errorf("behind changed requests answers are %s, not %s", show(reps), show(wants))
			}
		}
	}
	// No two lists of answers share their memory.
	for i := range reps {
		for _, b := range [][]byte{reps[i].Ticket.Blob, reps[i].Blob} {
			old := slices.Clone(b)
			for j := range b[:cap(b)] {
				b[:cap(b)][j] ^= 0xff
			}
			copy(b, old)
			if !reflect.DeepEqual(reps, wants) {
				t.Fatalf("what stands behind answer %d is another one's", i)
			}
			for j := range b {
				b[j] ^= 0xff
			}
			w.tgs(goodPlan())
			w.as(goodAs(), 100, keyOf(500))
			copy(b, old)
		}
	}
}

// P10.4, W6, W7: so are the bytes that are handed in to Handle, and answered.
func TestNothingOfBytesIsKept(t *testing.T) {
	w := edu(t)
	var answers, wants [][]byte
	for _, q := range []api.Msg{{Kind: 1, AsReq: goodAs()}, {Kind: 2, TgsReq: goodPlan().request()}, {Kind: 1, AsReq: api.AsReq{Client: ann, Server: own, Till: 100}}} {
		for range 3 {
			b := mustBytes(msg.Encode(q))
			c := roomy(b)
			answer := w.kdc.Handle(c, 100, keyOf(500))
			if !bytes.Equal(b, c) || string(c[:cap(c)][len(c):]) != "what stands behind" {
				t.Errorf("what was handed in became %x", c[:cap(c)])
			}
			turn([][]byte{c[:cap(c)]})
			answers, wants = append(answers, answer), append(wants, slices.Clone(answer))
			spoiled := w.kdc.Handle(b, 100, keyOf(500))
			spoiled = spoiled[:cap(spoiled)]
			turn([][]byte{spoiled, answer[len(answer):cap(answer)]})
			for i := range answers {
				if !bytes.Equal(answers[i], wants[i]) {
					t.Errorf("what was answered became %x, not %x", answers[i], wants[i])
				}
			}
		}
	}
}

// P10.4: what is handed in but the Boxes' Counts stays: the Ring has the same
// keys and Boxes behind all.
func TestTheRingStays(t *testing.T) {
	w := edu(t)
	keys := w.ring.Keys()
	for _, f := range tgsFaults() {
		p := goodPlan()
		f.do(&p)
		w.tgs(p)
		w.tgs(goodPlan())
	}
	for _, f := range asFaults() {
		q, now := goodAs(), 100
		f.do(&q, &now)
		w.as(q, now, keyOf(500))
	}
	if w.ring.Len() != len(w.keys) || !slices.Equal(w.ring.Keys(), keys) {
		t.Errorf("the Ring became one of %d keys, %x", w.ring.Len(), w.ring.Keys())
	}
	for _, h := range w.keys {
		if box, err := w.ring.Box(h.p, h.kvno); box != h.box || err != api.OK {
			t.Errorf("the Box of %s, %d is %p, %v", show(h.p), h.kvno, box, err)
		}
	}
}

// Ways: nonces are counted by many at a time: none is taken twice, none is lost.
func TestManyAtATime(t *testing.T) {
	const workers, rounds = 8, 100
	w := edu(t)
	as, tgs := mustBytes(msg.Encode(api.Msg{Kind: 1, AsReq: goodAs()})), goodPlan().request()
	var lists [workers][]api.Rep
	start := make(chan struct{})
	var all sync.WaitGroup
	for worker := range workers {
		all.Go(func() {
			<-start
			for i := range rounds {
				m, _ := msg.Decode(w.kdc.Handle(as, 100, keyOf(500)))
				rep, err := w.kdc.Tgs(tgs, 100, keyOf(500))
				if _, e := w.kdc.As(goodAs(), 401, keyOf(500)); m.Kind != 3 || err != api.OK || e != api.ErrExpired {
					t.Errorf("of many at a time, at %d, Handle is %s, Tgs %v, As %v", i, show(m), err, e)
				}
				w.kdc.Issued()
				lists[worker] = append(lists[worker], m.Rep, rep)
			}
		})
	}
	close(start)
	all.Wait()
	seen := make([]int, 4*workers*rounds+1)
	for _, l := range lists {
		before := 0
		for i, rep := range l {
			server, reader, use := keyOf(keyOwn2), keyOf(keyJoe2), 3
			if i%2 == 1 {
				server, reader, use = keyOf(keyWeb2), keyOf(900), 8
			}
			opened(t, rep, server, reader, use)
			for _, n := range []int{nonceOf(rep.Ticket.Blob), nonceOf(rep.Blob)} {
				if n <= before || n >= len(seen) {
					t.Fatalf("behind nonce %d there is %d", before, n)
				}
				seen[n]++
				before = n
			}
		}
	}
	if slices.ContainsFunc(seen[1:], func(n int) bool { return n != 1 }) {
		t.Errorf("nonces were taken %v times", seen[1:])
	}
	if n := w.kdc.Issued(); n != 2*workers*rounds {
		t.Errorf("behind %d answers Issued is %d", 2*workers*rounds, n)
	}
}

// randomPlan is a plan of up to three faults, and of numbers near the edges.
func randomPlan(rnd *rand.Rand, faults []fault) plan {
	p := goodPlan()
	if rnd.Intn(3) == 0 {
		p = ofRealm(p)
	}
	p.now = []int{0, 5, 100, 1<<30 - 3}[rnd.Intn(4)]
	near := func() int { return min(max(p.now+rnd.Intn(15)-7, 0), 1<<30) }
	p.part.Start, p.part.End, p.authn.Time, p.till = near(), near()+rnd.Intn(2)*50, near(), near()+rnd.Intn(2)*50
	p.part.End, p.till = min(p.part.End, 1<<30), min(p.till, 1<<30)
	p.part.Transited = []string{"", "COM", "A.EDU", ",", "EDU,A.", "A,B,C,D,E,F,G", "/HP,/LAB,", "MIT.", longTransited(-1), "A,B,C,D,E,F,G,H"}[rnd.Intn(10)]
	targets := []api.Princ{web, joe, own, toA, ann, far, princ("COM", "web"), princ("Q.COM", "krbtgt/COM"), princ("B.EDU", "web"), princ("/HP/LAB", "web"), princ("ORG", "web")}
	p.target = targets[rnd.Intn(len(targets))]
	clients := []api.Princ{joe, sue, far, princ("COM", "ann"), princ("/HP/LAB", "krbtgt/EDU")}
	if rnd.Intn(2) == 0 {
		p.part.Client = clients[rnd.Intn(len(clients))]
		p.authn.Client = p.part.Client
	}
	p.nonce, p.draw = rnd.Intn(1<<30+1), keyOf(rnd.Int())
	if rnd.Intn(5) == 0 {
		p.shown, p.kvno, p.lock = fromLong, 1, keyOf(keyFromLong)
	}
	if rnd.Intn(5) == 0 {
		p.shown, p.kvno, p.lock = fromA, 1, keyOf(keyFromA)
	}
	for range rnd.Intn(4) - 1 {
		faults[rnd.Intn(len(faults))].do(&p)
	}
	return p
}

// P10.1 to P10.4, W2: rows of calls, on two Kdcs in turn, against the model.
func TestRandomCalls(t *testing.T) {
	rnd := rand.New(rand.NewSource(100))
	faults, ases := tgsFaults(), asFaults()
	for range 4 {
		l := []*watch{edu(t), edu(t)}
		// From COM.
		l = append(l, watched(t, "COM", eduTopo(), map[string]string{"EDU": "EDU", "A.EDU": "EDU", "B.EDU": "EDU", "Q.COM": "Q.COM"},
			princ("COM", "krbtgt/COM"), princ("COM", "krbtgt/EDU"), princ("COM", "ann"), princ("EDU", "krbtgt/COM"), princ("COM", "web")))
		for range 1500 {
			w := l[rnd.Intn(len(l))]
			p := randomPlan(rnd, faults)
			if w.realm == "COM" && rnd.Intn(4) > 0 {
				p.shown, p.kvno, p.lock = toCom, 1, keyOf(4)
			}
			_, e := msg.Encode(api.Msg{Kind: 2, TgsReq: p.request()})
			q, now := goodAs(), []int{100, 0, 400, 401}[rnd.Intn(4)]
			if w.realm == "COM" && rnd.Intn(4) > 0 {
				q.Client, q.Server = princ("COM", "ann"), princ("COM", "krbtgt/COM")
			}
			q.Till, q.Nonce = min(now+rnd.Intn(2000)-2+(2-rnd.Intn(3)), 1<<30), rnd.Intn(1<<30)
			for range rnd.Intn(4) - 1 {
				ases[rnd.Intn(len(ases))].do(&q, &now)
			}
			_, e2 := msg.Encode(api.Msg{Kind: 1, AsReq: q})
			switch n := rnd.Intn(4); {
			case n == 0 && e == api.OK:
				w.handleTgs(p)
			case n < 2:
				w.tgs(p)
			case n == 2 && e2 == api.OK:
				w.handleAs(q, now, p.draw)
			default:
				w.as(q, now, p.draw)
			}
		}
		for _, w := range l {
			if w.issued < 100 {
				t.Errorf("of %s only %d were answered", w.realm, w.issued)
			}
		}
	}
}

// W1: numbers and texts of any size, lists of any length, end.
func TestAnyRequests(t *testing.T) {
	w := edu(t)
	for _, s := range []string{"", "A", "a", ".", "/", "A.", "/A", "krbtgt/", "\x00", "\xff", "é", "EDU", "joe", ","} {
		for _, n := range []int{1, 9, 1000, 1 << 18} {
			long := strings.Repeat(s, n)
			for _, p := range []api.Princ{princ(long, "joe"), princ("EDU", long), princ(long, long)} {
				if fitPrinc(p) {
					continue
				}
				q, r := goodAs(), goodPlan()
				q.Client = p
				wantArg(t, w, q, r)
				q, r.shown = goodAs(), p
				q.Server = p
				wantArg(t, w, q, r)
				r = goodPlan()
				r.target = p
				wantArg(t, w, q, r)
			}
			r := goodPlan().request()
			if r.Authn = []byte(long); len(long) > 800 || len(long) == 0 {
				if _, err := w.kdc.Tgs(r, 100, keyOf(500)); err != api.ErrArg {
					t.Errorf("Tgs of an authenticator of %d bytes is %v", len(long), err)
				}
			}
			w.handle("Handle of long bytes", []byte(long), 100, keyOf(500), nil)
		}
	}
	if n := w.kdc.Issued(); n != 0 {
		t.Errorf("Issued is %d", n)
	}
}

func wantArg(t *testing.T, w *watch, q api.AsReq, p plan) {
	t.Helper()
	if q != goodAs() {
		if rep, err := w.kdc.As(q, 100, keyOf(500)); err != api.ErrArg || !reflect.DeepEqual(rep, api.Rep{}) {
			t.Errorf("As of %s is %s, %v", show(q), show(rep), err)
		}
	}
	if p.shown != fromCom || p.target != web {
		if rep, err := w.kdc.Tgs(p.request(), 100, keyOf(500)); err != api.ErrArg || !reflect.DeepEqual(rep, api.Rep{}) {
			t.Errorf("Tgs of %s is %s, %v", show(p), show(rep), err)
		}
	}
}

// W8: a Kdc whose Ring has Boxes that others use meanwhile answers as it did:
// nothing hangs on Counts.
func TestBoxesThatOthersUse(t *testing.T) {
	w := edu(t)
	for i, h := range w.keys {
		for range i + 1 {
			b, _ := h.box.Seal(2, 1<<40, []byte("joe"))
			h.box.Open(2, b)
			h.box.Open(3, b)
			h.sealed, h.opened, h.refused = h.sealed+1, h.opened+1, h.refused+1
		}
		w.as(goodAs(), 100, keyOf(500))
		w.tgs(goodPlan())
	}
}

package client_test

import (
	"math/rand"
	"reflect"
	"slices"
	"strconv"
	"testing"

	"legate/api"
	"legate/kdc"
	"legate/msg"
	"legate/ring"
	"legate/route"
	"legate/seal"
	"legate/transit"
)

// A land is realms with their Kdcs, and the keys of all that have one.
type land struct {
	t     *testing.T
	topo  api.Topo
	kdcs  map[string]*kdc.Kdc
	rings map[string]*ring.Ring
	keys  map[api.Princ]api.Key
	draws int
}

// landOf has a server for each realm, a key for each link, and one for each of
// those principals.
func landOf(t *testing.T, topo api.Topo, princs ...api.Princ) *land {
	t.Helper()
	l := &land{t: t, topo: topo, kdcs: map[string]*kdc.Kdc{}, rings: map[string]*ring.Ring{}, keys: map[api.Princ]api.Key{}}
	for _, r := range topo.Realms {
		l.rings[r] = ring.New()
		k, err := kdc.New(r, topo, l.rings[r])
		if err != api.OK {
			t.Fatalf("the Kdc of %s is %v", r, err)
		}
		l.kdcs[r] = k
		l.add(princ(r, "krbtgt/"+r), r)
	}
	for _, link := range topo.Links {
		l.add(princ(link[0], "krbtgt/"+link[1]), link[0], link[1])
	}
	for _, p := range princs {
		l.add(p, p.Realm)
	}
	return l
}

func (l *land) add(p api.Princ, realms ...string) {
	l.t.Helper()
	l.keys[p] = keyOf(100 + len(l.keys))
	for _, r := range realms {
		if _, err := l.rings[r].Add(p, l.keys[p]); err != api.OK {
			l.t.Fatalf("Add of %s is %v", show(p), err)
		}
	}
}

func (l *land) watched(p api.Princ) *watch {
	l.t.Helper()
	return watchedOf(l.t, p, l.keys[p])
}

// drive brings requests to their realms and answers back, until nothing is sent,
// and tells the realms that were asked. The Kdcs' clocks are as much ahead.
func (l *land) drive(w *watch, target api.Princ, now, ahead int) []string {
	l.t.Helper()
	var asked []string
	realm, b, err := w.chase(target, now)
	if err != api.OK {
		l.t.Fatalf("Chase of %s is %v", show(target), err)
	}
	for len(b) > 0 {
		asked = append(asked, realm)
		if len(asked) > 7 || l.kdcs[realm] == nil {
			l.t.Fatalf("a chase asks %v", asked)
		}
		l.draws++
		realm, b = w.take(l.kdcs[realm].Handle(b, now+ahead, keyOf(2000+l.draws)), now)
	}
	if state, _, sent := w.client.State(); state == 1 || sent != len(asked) {
		l.t.Fatalf("behind a chase through %v State is %d, %d", asked, state, sent)
	}
	return asked
}

// wantAccepted wants that the service could accept what the client asks it: one
// session key, of its client, the realms that were passed, and the next Seq.
func (l *land) wantAccepted(w *watch, target api.Princ, now int, passed []string) {
	l.t.Helper()
	b, err := w.ask(target, now)
	m, formErr := msg.Decode(b)
	if err != api.OK || formErr != api.OK {
		l.t.Fatalf("Ask of %s is %s, %v", show(target), show(m), err)
	}
	inner, sealErr := seal.New(l.keys[target]).Open(2, m.ApReq.Ticket.Blob)
	part, partErr := msg.DecodePart(inner)
	inner, authErr := seal.New(part.Session).Open(11, m.ApReq.Authn)
	authn, authnErr := msg.DecodeAuthn(inner)
	if sealErr != api.OK || partErr != api.OK || authErr != api.OK || authnErr != api.OK {
		l.t.Fatalf("what is asked opens as %v, %v, %v, %v", sealErr, partErr, authErr, authnErr)
	}
	x, ok := w.cred(target, now)
	told, toldErr := transit.Expand(part.Transited, w.p.Realm, target.Realm)
	if part.Client != w.p || !ok || part.Session != x.Session || part.End != x.End || toldErr != api.OK || !slices.Equal(told, passed) {
		l.t.Errorf("the ticket is %s (it tells %v), not through %v", show(part), told, passed)
	}
	if authn != (api.Authn{Client: w.p, Time: now, Seq: w.seqs}) {
		l.t.Errorf("the authenticator is %s", show(authn))
	}
}

// P12.4, P0.4: a chase within one realm, to the next one, and to one behind that;
// then with the first ticket there, and with that behind its End.
func TestAChaseOverRealms(t *testing.T) {
	topo := api.Topo{Realms: []string{"A.EDU", "EDU", "B.EDU"}, Links: [][2]string{{"A.EDU", "EDU"}, {"EDU", "B.EDU"}}}
	clerk := princ("EDU", "clerk")
	l := landOf(t, topo, joe, mail, clerk, web)
	for _, c := range []struct {
		target api.Princ
		asked  []string
		passed []string
	}{
		{mail, []string{"A.EDU", "A.EDU"}, nil},
		{clerk, []string{"A.EDU", "A.EDU", "EDU"}, nil},
		{web, []string{"A.EDU", "A.EDU", "EDU", "B.EDU"}, []string{"EDU"}},
		{joe, []string{"A.EDU", "A.EDU"}, nil},
	} {
		w := l.watched(joe)
		for _, ahead := range []int{0, 5, -5} {
			for _, now := range []int{50, 60, 1040, 2046} {
				asked := c.asked
				if _, ok := w.cred(own, now); ok {
					asked = asked[1:]
				}
				if got := l.drive(w, c.target, now, ahead); !slices.Equal(got, asked) {
					t.Errorf("for %s %v were asked, not %v", show(c.target), got, asked)
				}
				w.wantState(2, 0, len(asked))
				l.wantAccepted(w, c.target, now, c.passed)
				l.wantAccepted(w, c.target, now, c.passed)
			}
			w = l.watched(joe)
		}
	}
	// One client after the other, of each of them.
	w := l.watched(joe)
	for _, target := range []api.Princ{web, mail, web, clerk, clerk, joe, web} {
		l.drive(w, target, 100, 0)
		w.wantState(2, 0, w.sent)
	}
	for _, p := range []api.Princ{own, toEdu, toB, web, mail, clerk, joe} {
		if _, ok := w.cred(p, 100); !ok {
			t.Errorf("there is no ticket of %s", show(p))
		}
	}
}

// P12.4, P0.4: six realms in a row, each of which is asked once.
func TestALongChase(t *testing.T) {
	for _, realms := range [][]string{{"A", "B", "C", "D", "E", "F"}, {"X.A.EDU", "A.EDU", "EDU", "/COM", "/COM/HP", "Q"}} {
		topo := api.Topo{Realms: realms}
		for i := range 5 {
			topo.Links = append(topo.Links, [2]string{realms[i], realms[i+1]})
		}
		// Each realm has to know the way to the last one.
		for i := range 4 {
			topo.Paths = append(topo.Paths, api.Path{From: realms[i], To: realms[5], Via: realms[i+1 : 5]})
		}
		ann, shop := princ(realms[0], "ann"), princ(realms[5], "shop")
		l := landOf(t, topo, ann, shop)
		w := l.watched(ann)
		want := append([]string{realms[0]}, realms...)
		if asked := l.drive(w, shop, 7, 0); !slices.Equal(asked, want) {
			t.Errorf("%v were asked, not %v", asked, want)
		}
		w.wantState(2, 0, 7)
		l.wantAccepted(w, shop, 7, realms[1:5])
		if asked := l.drive(w, shop, 8, 0); !slices.Equal(asked, realms) {
			t.Errorf("with the first ticket %v were asked", asked)
		}
		w.wantState(2, 0, 6)
	}
}

// P12.2: what realms answer that can't be followed: the chase has failed, with
// their error, or the client's own.
func TestChasesThatFail(t *testing.T) {
	topo := api.Topo{
		Realms: []string{"A.EDU", "EDU", "B.EDU", "COM"},
		Links:  [][2]string{{"A.EDU", "EDU"}, {"EDU", "A.EDU"}, {"EDU", "B.EDU"}, {"B.EDU", "EDU"}},
		Paths:  []api.Path{{From: "A.EDU", To: "COM", Via: []string{"EDU"}}, {From: "EDU", To: "COM", Via: []string{"B.EDU"}}, {From: "B.EDU", To: "COM", Via: []string{"EDU"}}},
	}
	ann, com := princ("EDU", "ann"), princ("COM", "web")
	l := landOf(t, topo, joe, mail, web, com)
	l.keys[ann] = keyOf(3)
	for _, c := range []struct {
		of     api.Princ
		target api.Princ
		ahead  int
		err    api.Errno
		sent   int
	}{
		{ann, web, 0, api.ErrClient, 1},
		{joe, princ("A.EDU", "nobody"), 0, api.ErrServer, 2},
		{joe, princ("B.EDU", "nobody"), 0, api.ErrServer, 4},
		{joe, princ("ORG", "web"), 0, api.ErrRoute, 2},
		{joe, com, 0, api.ErrLoop, 4},
		{joe, web, 6, api.ErrSkew, 2},
		{joe, web, -6, api.ErrSkew, 2},
		{joe, web, 1001, api.ErrExpired, 1},
	} {
		w := l.watched(c.of)
		l.drive(w, c.target, 50, c.ahead)
		w.wantState(3, c.err, c.sent)
		if _, ok := w.client.Cred(c.target, 50); ok {
			t.Errorf("behind %v there is a ticket of %s", c.err, show(c.target))
		}
	}
	// A first ticket that has ended by the realm's clock, and a target's that has not.
	w := l.watched(joe)
	l.drive(w, mail, 50, 0)
	l.drive(w, web, 1050, 1)
	w.wantState(3, api.ErrExpired, 1)
	l.wantAccepted(w, mail, 1050, nil)
	// Who has another key than its realm thinks gets nothing, and waits.
	w = watchedOf(t, joe, keyOf(99))
	_, b, _ := w.chase(web, 50)
	if realm, c := w.take(l.kdcs["A.EDU"].Handle(b, 50, keyOf(5)), 50); realm != "" || c != nil {
		t.Errorf("with another key an answer leads to %q, %x", realm, c)
	}
	w.wantState(1, 0, 1)
}

// anyTopo is one that may be, of some realms that lie near each other.
func anyTopo(rnd *rand.Rand) api.Topo {
	pool := []string{"EDU", "A.EDU", "B.EDU", "X.A.EDU", "COM", "Q.COM", "/COM", "/COM/HP", "ORG"}
	rnd.Shuffle(len(pool), func(i, j int) { pool[i], pool[j] = pool[j], pool[i] })
	t := api.Topo{Realms: pool[:2+rnd.Intn(5)]}
	any := func() string { return t.Realms[rnd.Intn(len(t.Realms))] }
	for range rnd.Intn(21) {
		link := [2]string{any(), any()}
		if link[0] != link[1] && !slices.Contains(t.Links, link) {
			t.Links = append(t.Links, link)
		}
	}
	for range rnd.Intn(9) {
		p := api.Path{From: any(), To: any()}
		if rnd.Intn(4) > 0 {
			p.Via = []string{any()}
		}
		if len(t.Links) > 0 && rnd.Intn(2) == 0 {
			link := t.Links[rnd.Intn(len(t.Links))]
			p.From, p.Via = link[0], []string{link[1]}
		}
		t.Paths = append(t.Paths, p)
		if !route.Is(t) {
			t.Paths = t.Paths[:len(t.Paths)-1]
		}
	}
	return t
}

// wayOf is the realms that are asked with tickets, and how a chase ends: by Next,
// asked of each realm.
func wayOf(t api.Topo, from, to string) ([]string, int, api.Errno) {
	way := []string{from}
	for at := from; at != to; {
		next, ok := route.Next(t, at, to)
		if !ok {
			return way, 3, api.ErrRoute
		}
		if slices.Contains(way, next) {
			return way, 3, api.ErrLoop
		}
		way = append(way, next)
		at = next
	}
	return way, 2, api.OK
}

// P12.4, P0.4: chases from each realm to each in many Topos, against Walk.
func TestChasesInManyTopos(t *testing.T) {
	rnd := rand.New(rand.NewSource(120))
	done, looped, lost := 0, 0, 0
	for range 600 {
		topo := anyTopo(rnd)
		var clients, services []api.Princ
		for _, r := range topo.Realms {
			clients, services = append(clients, princ(r, "ann")), append(services, princ(r, "shop"))
		}
		l := landOf(t, topo, slices.Concat(clients, services)...)
		for _, p := range clients {
			for _, target := range services {
				w := l.watched(p)
				w.quick = rnd.Intn(10) > 0
				way, state, err := wayOf(topo, p.Realm, target.Realm)
				if asked := l.drive(w, target, 50, rnd.Intn(11)-5); !slices.Equal(asked, append([]string{p.Realm}, way...)) {
					t.Errorf("of %s for %s in %s %v were asked, not %v", show(p), show(target), show(topo), asked, way)
				}
				w.wantState(state, err, 1+len(way))
				switch err {
				case api.OK:
					l.wantAccepted(w, target, 50, way[1:max(1, len(way)-1)])
					done++
				case api.ErrLoop:
					looped++
				default:
					lost++
				}
				if walk, ok := route.Walk(topo, p.Realm, target.Realm); ok != (state == 2) || ok && p.Realm != target.Realm && !slices.Equal(walk, way[1:len(way)-1]) {
					t.Errorf("Walk is %v, %v, and the way is %v", walk, ok, way)
				}
			}
		}
	}
	if done < 2000 || looped < 30 || lost < 2000 {
		t.Errorf("only %d chases were done, %d came to loops, %d to nowhere", done, looped, lost)
	}
}

// P12.1 to P12.3: all rows of four calls of some dozen kinds, at the beginning,
// and behind a first ticket.
func TestAllShortScripts(t *testing.T) {
	const kinds = 12
	for script := range 2 * kinds * kinds * kinds * kinds {
		w := watched(t)
		w.quick = true
		if script%2 == 1 {
			w.chase(web, 20)
			w.get(own, 23, 20)
		}
		for i, n := 21, script/2; i < 25; i, n = i+1, n/kinds {
			w.shortCall(n%kinds, i)
		}
		w.quick = false
		w.wantAll("script " + strconv.Itoa(script))
		w.chase(mail, 22)
	}
}

func (w *watch) shortCall(kind, now int) {
	w.t.Helper()
	switch kind {
	case 0:
		w.chase(web, now)
	case 1:
		w.chase(mail, now)
	case 2:
		w.chaseOf(own, false, now)
	case 3:
		w.get(own, now+1, now)
	case 4:
		w.get(toEdu, 500, now)
	case 5:
		w.get(princ("EDU", "krbtgt/A.EDU"), now-2, now)
	case 6:
		w.get(web, 22, now)
	case 7:
		w.get(mail, 500, now)
	case 8:
		w.take(failed(api.ErrServer, w.nonce), now)
	case 9:
		w.take(failed(api.ErrServer, w.nonce+1), now)
	case 10:
		a := w.fitting(own)
		a.part.Nonce++
		w.take(a.bytes(), now)
	case 11:
		w.ask(own, now)
		w.ask(web, now)
	}
}

// P12.1 to P12.3, W2: long scripts on two Clients in turn, in which what was
// answered once comes again, to both.
func TestRandomScripts(t *testing.T) {
	rnd := rand.New(rand.NewSource(121))
	states := map[api.Errno]int{}
	done := 0
	for round := range 150 {
		l := []*watch{watched(t), watchedOf(t, princ("EDU", "ann"), keyOf(7))}
		// In every other round tickets last long, so that there are many.
		width := 30 + round%2*500
		var old [][]byte
		for step := range 250 {
			w := l[rnd.Intn(2)]
			before := w.state
			old = w.anyCall(rnd, old, step/2, width)
			if before == 1 && w.state == 3 {
				states[w.err]++
			}
			if before == 1 && w.state == 2 {
				done++
			}
		}
	}
	for _, err := range []api.Errno{api.ErrMatch, api.ErrLoop, api.ErrFull, api.ErrHops, api.ErrServer} {
		if states[err] < 5 {
			t.Errorf("only %d chases came to %v", states[err], err)
		}
	}
	if done < 50 {
		t.Errorf("only %d chases were done", done)
	}
}

// anyCall is a call of any kind at about that time, and all bytes that were
// handed in so far. Tickets last less than the width.
func (w *watch) anyCall(rnd *rand.Rand, old [][]byte, step, width int) [][]byte {
	w.t.Helper()
	w.quick = rnd.Intn(8) > 0
	now := max(step+rnd.Intn(5)-2, 0)
	servers := []api.Princ{web, mail, joe, princ("EDU", "ann"), princ("B.EDU", "s1"), princ("B.EDU", "s2"), princ("B.EDU", "s3"), princ("B.EDU", "s4")}
	target := servers[rnd.Intn(len(servers))]
	switch n := rnd.Intn(40); {
	case n < 4:
		w.chase(target, now)
		return old
	case n == 4:
		bad := append(realmServers(), unfitPrincs()[:20]...)
		w.chaseOf(bad[rnd.Intn(len(bad))], false, now)
		return old
	case n < 8:
		w.ask(append(servers, w.own(), toEdu)[rnd.Intn(10)], now)
		return old
	case n == 8:
		w.ask(target, unfitTimes()[rnd.Intn(5)])
		return old
	case n < 12 && len(old) > 0:
		w.take(old[rnd.Intn(len(old))], now)
		return old
	}
	b := w.anyAnswer(rnd, target, now, width)
	if rnd.Intn(30) == 0 {
		w.take(b, unfitTimes()[rnd.Intn(5)])
	}
	w.take(b, now)
	return append(old, b)
}

// anyAnswer is one that fits, most often, or a Fail, or one that is none.
func (w *watch) anyAnswer(rnd *rand.Rand, target api.Princ, now, width int) []byte {
	if rnd.Intn(12) == 0 {
		return failed([]api.Errno{api.ErrServer, api.ErrSkew, 255}[rnd.Intn(3)], max(w.nonce+rnd.Intn(3)-1, 0))
	}
	server := princ([]string{"A.EDU", "EDU", "/COM"}[rnd.Intn(3)], "krbtgt/"+[]string{"A.EDU", "EDU", "B.EDU", "C", "D", "E.F", "/COM", "/COM/HP", "H", "I"}[rnd.Intn(10)])
	switch rnd.Intn(6) {
	case 0:
		server = target
	case 1:
		if w.target.Realm != "" {
			server = w.target
		}
	}
	if w.use == 3 && rnd.Intn(8) > 0 {
		server = w.own()
	}
	a := w.fitting(server)
	a.part.Start, a.part.End = now, max(now+rnd.Intn(width)-3, 0)
	if rnd.Intn(8) == 0 {
		l := spoils()
		l[rnd.Intn(len(l))].do(&a)
		// A nonce that may not be is none that can be told.
		a.part.Nonce = min(max(a.part.Nonce, 0), 1<<30)
	}
	b := a.bytes()
	if rnd.Intn(12) == 0 {
		b[rnd.Intn(len(b))] ^= 1 << rnd.Intn(8)
	}
	return b
}

// P12.1: two Clients have nothing in common, though they are of one principal
// and one key: each has its own numbers, tickets, chase.
func TestTwoClients(t *testing.T) {
	v, w := watched(t), watched(t)
	v.chase(web, 20)
	w.wantAll("Chase of another Client")
	v.get(own, 500, 20)
	w.wantAll("Take of another Client")
	if _, b, _ := w.chase(web, 20); b[0] != 0x6a {
		t.Errorf("with another one's ticket a chase begins with %x", b)
	}
	v.get(web, 500, 20)
	w.wantState(1, 0, 1)
	if _, err := w.ask(web, 20); err != api.ErrKey {
		t.Errorf("Ask with another one's ticket is %v", err)
	}
	v.ask(web, 20)
	w.fail(5, 20)
	v.wantState(2, 0, 2)
	if reflect.DeepEqual(v.has, w.has) {
		t.Error("both have the same")
	}
}

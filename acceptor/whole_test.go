package acceptor_test

import (
	"math/rand"
	"slices"
	"testing"

	"legate/acceptor"
	"legate/api"
	"legate/client"
	"legate/kdc"
	"legate/msg"
	"legate/name"
	"legate/ring"
	"legate/route"
	"legate/seal"
)

// A land is realms with their Kdcs, the clients and services that are there, and
// the keys of all.
type land struct {
	t        *testing.T
	topo     api.Topo
	kdcs     map[string]*kdc.Kdc
	rings    map[string]*ring.Ring
	keys     map[api.Princ]api.Key
	services map[api.Princ]*acceptor.Acceptor
	draws    int
}

// landOf has a Kdc for each realm, a key for each link, and one for each of those
// principals; those that are named shop are services, whose Rings have no other
// key.
func landOf(t *testing.T, topo api.Topo, princs ...api.Princ) *land {
	t.Helper()
	l := &land{t: t, topo: topo, kdcs: map[string]*kdc.Kdc{}, rings: map[string]*ring.Ring{}, keys: map[api.Princ]api.Key{}, services: map[api.Princ]*acceptor.Acceptor{}}
	for _, r := range topo.Realms {
		l.rings[r] = ring.New()
		k, err := kdc.New(r, topo, l.rings[r])
		if err != api.OK {
			t.Fatalf("the Kdc of %s is %v", r, err)
		}
		l.kdcs[r] = k
		l.add(princ(r, "krbtgt/"+r), l.rings[r])
	}
	for _, link := range topo.Links {
		l.add(princ(link[0], "krbtgt/"+link[1]), l.rings[link[0]], l.rings[link[1]])
	}
	for _, p := range princs {
		if p.Name != "shop" {
			l.add(p, l.rings[p.Realm])
			continue
		}
		r := ring.New()
		l.add(p, l.rings[p.Realm], r)
		l.services[p] = newAcceptor(t, p, topo, r, 0)
	}
	return l
}

func (l *land) add(p api.Princ, rings ...*ring.Ring) {
	l.t.Helper()
	l.keys[p] = keyOf(100 + len(l.keys))
	for _, r := range rings {
		if _, err := r.Add(p, l.keys[p]); err != api.OK {
			l.t.Fatalf("Add of %s is %v", show(p), err)
		}
	}
}

func (l *land) draw() api.Key {
	l.draws++
	return keyOf(2000 + l.draws)
}

func (l *land) client(p api.Princ) *client.Client {
	l.t.Helper()
	c, err := client.New(p, l.keys[p])
	if err != api.OK {
		l.t.Fatalf("the client %s is %v", show(p), err)
	}
	return c
}

// chase brings requests to their realms and answers back, and tells whether the
// chase is done.
func (l *land) chase(c *client.Client, target api.Princ, now int) bool {
	l.t.Helper()
	realm, b, err := c.Chase(target, now)
	if err != api.OK {
		l.t.Fatalf("Chase of %s is %v", show(target), err)
	}
	for len(b) > 0 {
		realm, b = c.Take(l.kdcs[realm].Handle(b, now, l.draw()), now)
	}
	state, _, _ := c.State()
	return state == api.ChaseDone
}

// P14.1, P0.1, P0.4: chases over one realm to three: what the client asks is
// accepted, once, both ends have one session key, and the realm between is told.
func TestChasesAreAccepted(t *testing.T) {
	topo := api.Topo{Realms: []string{"A.EDU", "EDU", "B.EDU"}, Links: [][2]string{{"A.EDU", "EDU"}, {"EDU", "B.EDU"}}}
	shops := []api.Princ{princ("A.EDU", "shop"), princ("EDU", "shop"), princ("B.EDU", "shop")}
	l := landOf(t, topo, joe, shops[0], shops[1], shops[2])
	c := l.client(joe)
	var old [][]byte
	seq := 0
	for round := range 3 {
		now := 50 + 400*round
		for i, shop := range shops {
			if !l.chase(c, shop, now) {
				t.Fatalf("the chase for %s is not done", show(shop))
			}
			for range 2 {
				seq++
				b, err := c.Ask(shop, now)
				if err != api.OK {
					t.Fatalf("Ask of %s is %v", show(shop), err)
				}
				x, err := l.services[shop].Take(b, now+5)
				cred, _ := c.Cred(shop, now)
				want := api.Accept{Client: joe, Server: shop, Session: cred.Session, Transited: [][]string{nil, nil, {"EDU"}}[i], Time: now, Seq: seq}
				if err != api.OK || !sameAccept(x, want) {
					t.Errorf("at %s Take is %s, %v, not %s", show(shop), show(x), err, show(want))
				}
				old = append(old, b)
				for _, b := range old {
					for p, a := range l.services {
						if x, err := a.Take(b, now+5); err != api.ErrReplay && err != api.ErrSkew && err != api.ErrMatch {
							t.Errorf("at %s Take again is %s, %v", show(p), show(x), err)
						}
					}
				}
			}
		}
		for _, a := range l.services {
			a.Restart(now + 5)
		}
	}
	for p, a := range l.services {
		if accepted, _ := a.Counts(); accepted != 6 {
			t.Errorf("at %s %d were accepted", show(p), accepted)
		}
	}
}

// P14.1: what the client asked with the elder key's ticket is accepted behind the
// newer key's, too.
func TestANewKeyOfTheService(t *testing.T) {
	shop := princ("A.EDU", "shop")
	topo := api.Topo{Realms: []string{"A.EDU"}}
	l := landOf(t, topo, joe)
	own := ring.New()
	l.add(shop, l.rings["A.EDU"], own)
	a := newAcceptor(t, shop, topo, own, 0)
	c, d := l.client(joe), l.client(joe)
	take := func(c *client.Client, now int) api.Errno {
		t.Helper()
		b, err := c.Ask(shop, now)
		if err != api.OK {
			t.Fatalf("Ask is %v", err)
		}
		_, err = a.Take(b, now)
		return err
	}
	if !l.chase(c, shop, 10) || take(c, 10) != api.OK {
		t.Error("with the first key nothing is accepted")
	}
	// The realm has the newer key ahead of the service.
	l.add(shop, l.rings["A.EDU"])
	if !l.chase(d, shop, 20) || take(d, 20) != api.ErrKey || take(c, 20) != api.OK {
		t.Error("ahead of the second key others are accepted")
	}
	if n, err := own.Add(shop, l.keys[shop]); n != 2 || err != api.OK {
		t.Errorf("Add is %d, %v", n, err)
	}
	if take(d, 30) != api.OK || take(c, 40) != api.OK {
		t.Error("with both keys not both are accepted")
	}
}

// anyTopo is one that may be, of some realms that lie near each other.
func anyTopo(rnd *rand.Rand) api.Topo {
	pool := []string{"EDU", "A.EDU", "B.EDU", "X.A.EDU", "COM", "Q.COM", "/COM", "/COM/HP", "ORG"}
	rnd.Shuffle(len(pool), func(i, j int) { pool[i], pool[j] = pool[j], pool[i] })
	t := api.Topo{Realms: pool[:4+rnd.Intn(3)], Links: [][2]string{{pool[0], pool[1]}}}
	any := func() string { return t.Realms[rnd.Intn(len(t.Realms))] }
	for range 6 + rnd.Intn(15) {
		if link := [2]string{any(), any()}; link[0] != link[1] && !slices.Contains(t.Links, link) {
			t.Links = append(t.Links, link)
		}
	}
	// Most ways that are laid down go to one realm, so that one leads on to another:
	// what is passed then may be none that may be.
	end := any()
	for range rnd.Intn(30) {
		link := t.Links[rnd.Intn(len(t.Links))]
		t.Paths = append(t.Paths, api.Path{From: link[0], To: []string{end, end, end, any()}[rnd.Intn(4)], Via: []string{link[1], any()}[:rnd.Intn(3)]})
		if !route.Is(t) {
			t.Paths = t.Paths[:len(t.Paths)-1]
		}
	}
	return t
}

// people are a client and a service of each realm.
func people(t api.Topo) (clients, shops []api.Princ) {
	for _, r := range t.Realms {
		clients, shops = append(clients, princ(r, "ann")), append(shops, princ(r, "shop"))
	}
	return clients, shops
}

// mayPass tells whether all of l may be passed: those that are laid down, else those
// that are between.
func mayPass(t api.Topo, from, to string, l []string) bool {
	may := name.Between(from, to)
	for _, p := range t.Paths {
		if p.From == from && p.To == to {
			may = p.Via
		}
	}
	return within(l, may)
}

// P14.1, P0.1, P0.2, P0.4: chases from each realm to each in many Topos: what is
// asked is accepted with the realms of its way, where these may be passed.
func TestChasesInManyTopos(t *testing.T) {
	rnd := rand.New(rand.NewSource(140))
	accepted, refused := 0, 0
	for range 600 {
		topo := anyTopo(rnd)
		clients, shops := people(topo)
		l := landOf(t, topo, slices.Concat(clients, shops)...)
		for i, p := range clients {
			now := 20 * i
			for _, shop := range shops {
				// Another one each time, as a Cache is soon full.
				c := l.client(p)
				way, ok := route.Walk(topo, p.Realm, shop.Realm)
				if l.chase(c, shop, now) != ok {
					t.Fatalf("in %s the chase of %s for %s is done: %t", show(topo), show(p), show(shop), !ok)
				}
				if !ok {
					continue
				}
				b, _ := c.Ask(shop, now)
				x, err := l.services[shop].Take(b, now)
				cred, _ := c.Cred(shop, now)
				want, wantErr := api.Accept{Client: p, Server: shop, Session: cred.Session, Transited: way, Time: now, Seq: 1}, api.OK
				if !mayPass(topo, p.Realm, shop.Realm, way) {
					want, wantErr = api.Accept{}, api.ErrPolicy
					refused++
				} else {
					accepted++
				}
				if err != wantErr || !sameAccept(x, want) {
					t.Fatalf("in %s Take of %s at %s is %s, %v, not %s, %v", show(topo), show(p), show(shop), show(x), err, show(want), wantErr)
				}
			}
		}
	}
	if accepted < 5000 || refused < 50 {
		t.Errorf("only %d were accepted, %d refused", accepted, refused)
	}
}

// mint is a ticket that one who has the key of a link makes of what he likes, with a
// session key of noughts.
func (l *land) mint(link [2]string, p api.Princ, transited string) api.Ticket {
	server := princ(link[0], "krbtgt/"+link[1])
	part := mustBytes(msg.EncodePart(api.Part{Client: p, Transited: transited, End: 1 << 30}))
	return api.Ticket{Server: server, Kvno: 1, Blob: mustBytes(seal.New(l.keys[server]).Seal(2, 1<<39, part))}
}

// follow asks realm after realm with a ticket, as its client would, and then the
// service: what that answers, and whether it was asked.
func (l *land) follow(realm string, ticket api.Ticket, p, shop api.Princ, now int) (api.Accept, api.Errno, bool) {
	l.t.Helper()
	var session api.Key
	authn := func(use, seq int) []byte {
		return mustBytes(seal.New(session).Seal(use, 1<<39, mustBytes(msg.EncodeAuthn(api.Authn{Client: p, Time: now, Seq: seq}))))
	}
	for range 7 {
		q := api.TgsReq{Ticket: ticket, Authn: authn(7, 0), Server: shop, Till: 1 << 30, Nonce: 7}
		m, err := msg.Decode(l.kdcs[realm].Handle(mustBytes(msg.Encode(api.Msg{Kind: 2, TgsReq: q})), now, l.draw()))
		if err != api.OK || m.Kind != 3 {
			return api.Accept{}, api.OK, false
		}
		b, err := seal.New(session).Open(8, m.Rep.Blob)
		beside, e := msg.DecodeRep(b)
		if err != api.OK || e != api.OK {
			l.t.Fatalf("an answer opens as %v, %v", err, e)
		}
		ticket, session = m.Rep.Ticket, beside.Session
		if ticket.Server == shop {
			l.draws++
			b := mustBytes(msg.Encode(api.Msg{Kind: 4, ApReq: api.ApReq{Ticket: ticket, Authn: authn(11, l.draws)}}))
			x, err := l.services[shop].Take(b, now)
			return x, err, true
		}
		realm, _ = name.Target(ticket.Server.Name)
	}
	return api.Accept{}, api.OK, false
}

// P14.1, P0.1, P0.2: one who has a realm's keys makes tickets of what he likes: what
// is accepted tells that realm, or says that its client or its service is of it, and
// passed none that may not be passed.
func TestWhoHasAKeyIsTold(t *testing.T) {
	rnd := rand.New(rand.NewSource(141))
	accepted, refused := 0, 0
	for range 300 {
		topo := anyTopo(rnd)
		clients, shops := people(topo)
		l := landOf(t, topo, slices.Concat(clients, shops)...)
		for n := range 40 {
			now := 10 * n
			link := topo.Links[rnd.Intn(len(topo.Links))]
			p, shop := clients[rnd.Intn(len(clients))], shops[rnd.Intn(len(shops))]
			transited := []string{"", "", ",", link[0], link[1], topo.Realms[0], "ORG,EDU", "A,B,C", "?"}[rnd.Intn(9)]
			x, err, asked := l.follow(link[1], l.mint(link, p, transited), p, shop, now)
			if !asked {
				continue
			}
			if err != api.OK {
				refused++
				continue
			}
			accepted++
			if x.Client != p || x.Server != shop || !mayPass(topo, p.Realm, shop.Realm, x.Transited) {
				t.Errorf("in %s what %s made was accepted as %s", show(topo), link[0], show(x))
			}
			if link[0] != p.Realm && link[0] != shop.Realm && !slices.Contains(x.Transited, link[0]) {
				t.Errorf("in %s what %s made was accepted without it, as %s", show(topo), link[0], show(x))
			}
		}
	}
	if accepted < 300 || refused < 3000 {
		t.Errorf("only %d were accepted, %d refused", accepted, refused)
	}
}

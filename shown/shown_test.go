package shown_test

import (
	"testing"

	"legate/api"
	"legate/msg"
	"legate/ring"
	"legate/seal"
	"legate/shown"
)

var (
	joe = api.Princ{Realm: "A.EDU", Name: "joe"}
	web = api.Princ{Realm: "A.EDU", Name: "web"}
	key = api.Key{1, 16: 2}
)

// sealed is bytes that a key sealed.
func sealed(t *testing.T, k api.Key, usage int, b []byte, err api.Errno) []byte {
	t.Helper()
	c, e := seal.New(k).Seal(usage, 1, b)
	if err != api.OK || e != api.OK {
		t.Fatal(err, e)
	}
	return c
}

// P10.2, P14.1: what a ticket seals, and what may be wrong with it, of each two
// things the one that stands first.
func TestTicket(t *testing.T) {
	r := ring.New()
	r.Add(web, key)
	part := api.Part{Client: joe, Session: api.Key{9}, Transited: "EDU", Start: 105, End: 100}
	of := func(p api.Part, k api.Key, usage int) api.Ticket {
		b, err := msg.EncodePart(p)
		return api.Ticket{Server: web, Kvno: 1, Blob: sealed(t, k, usage, b, err)}
	}
	good := of(part, key, api.UseTicket)
	other, none, junk := good, good, good
	other.Server, none.Kvno, junk.Blob = joe, 2, sealed(t, key, api.UseTicket, []byte("junk"), api.OK)
	none.Blob = []byte("junk")
	for i, c := range []struct {
		r    *ring.Ring
		t    api.Ticket
		now  int
		want api.Errno
	}{
		{r, good, 100, api.OK}, {nil, good, 100, api.ErrKey}, {r, other, 100, api.ErrKey}, {r, none, 101, api.ErrKey},
		{r, of(part, api.Key{}, api.UseTicket), 101, api.ErrSeal}, {r, of(part, key, api.UseAsRep), 101, api.ErrSeal}, {r, junk, 101, api.ErrForm},
		{r, good, 101, api.ErrExpired}, {r, good, 99, api.ErrSkew}, {r, of(api.Part{Client: joe, Start: 200, End: 100}, key, api.UseTicket), 101, api.ErrExpired},
	} {
		p, err := shown.Ticket(c.r, c.t, c.now)
		if err != c.want || (err == api.OK) != (p == part) || err != api.OK && p != (api.Part{}) {
			t.Errorf("at %d Ticket is %v, %v, not %v", i, p, err, c.want)
		}
	}
}

// P10.2, P14.1: an authenticator, and what may be wrong with it.
func TestAuthn(t *testing.T) {
	a := api.Authn{Client: joe, Time: 7, Seq: 3}
	b, err := msg.EncodeAuthn(a)
	good := sealed(t, key, api.UseApAuth, b, err)
	for i, c := range []struct {
		key    api.Key
		usage  int
		authn  []byte
		client api.Princ
		want   api.Errno
	}{
		{key, api.UseApAuth, good, joe, api.OK}, {api.Key{}, api.UseApAuth, good, web, api.ErrSeal}, {key, api.UseTgsAuth, good, web, api.ErrSeal}, {key, api.UseApAuth, nil, web, api.ErrSeal},
		{key, api.UseApAuth, sealed(t, key, api.UseApAuth, []byte("junk"), api.OK), web, api.ErrForm}, {key, api.UseApAuth, good, web, api.ErrMatch},
	} {
		x, err := shown.Authn(seal.New(c.key), c.usage, c.authn, c.client)
		if err != c.want || (err == api.OK) != (x == a) || err != api.OK && x != (api.Authn{}) {
			t.Errorf("at %d Authn is %v, %v, not %v", i, x, err, c.want)
		}
	}
}

package client_test

import (
	"bytes"
	"math/rand"
	"slices"
	"strings"
	"testing"
	"unsafe"

	"legate/api"
	"legate/client"
)

// A bag is texts and bytes that can be turned.
type bag struct{ all [][]byte }

func (g *bag) text(s string) string {
	b := []byte(s)
	g.all = append(g.all, b)
	return unsafe.String(unsafe.SliceData(b), len(b))
}

func (g *bag) princ(p api.Princ) api.Princ { return princ(g.text(p.Realm), g.text(p.Name)) }

// bytes is the same ones, with others ahead and behind.
func (g *bag) bytes(b []byte) []byte {
	c := slices.Concat([]byte("ahead"), b, []byte("what stands behind"))
	g.all = append(g.all, c)
	return c[5 : 5+len(b)]
}

func (g *bag) turn() {
	for _, b := range g.all {
		for i := range b {
			b[i] ^= 0x55
		}
	}
	g.all = nil
}

// P12.4, W6: what is handed in is neither changed nor kept: principals' texts,
// answers' bytes, the room ahead of them and behind; behind each call all of it
// is turned.
func TestNothingHandedInIsKept(t *testing.T) {
	var g bag
	w := watched(t)
	c, err := client.New(g.princ(joe), keyOf(1))
	if err != api.OK {
		t.Fatal(err)
	}
	g.turn()
	w.client = c
	w.wantAll("New of turned texts")
	chase := func(target api.Princ, now int) {
		t.Helper()
		p := g.princ(target)
		wantRealm, want, wantErr := w.modelChase(target, true, now)
		realm, b, err := c.Chase(p, now)
		if realm != wantRealm || !bytes.Equal(b, want) || err != wantErr || p != target {
			t.Fatalf("Chase of %s is %q, %x, %v", show(p), realm, b, err)
		}
		g.turn()
		w.wantAll("Chase of turned texts")
	}
	take := func(b []byte, now int) {
		t.Helper()
		d := g.bytes(b)
		wantRealm, want := w.modelTake(b, now)
		realm, e := c.Take(d, now)
		if realm != wantRealm || !bytes.Equal(e, want) {
			t.Fatalf("Take is %q, %x, not %q, %x", realm, e, wantRealm, want)
		}
		if all := g.all[len(g.all)-1]; string(all) != "ahead"+string(b)+"what stands behind" {
			t.Fatalf("what was handed in became %x", all)
		}
		g.turn()
		w.wantAll("Take of turned bytes")
	}
	ask := func(target api.Princ, now int) {
		t.Helper()
		p, q := g.princ(target), g.princ(target)
		want, wantErr := w.modelAsk(target, now)
		b, err := c.Ask(p, now)
		_, ok := c.Cred(q, now)
		if !bytes.Equal(b, want) || err != wantErr || ok != (err == api.OK) || p != target || q != target {
			t.Fatalf("Ask of %s is %x, %v", show(p), b, err)
		}
		g.turn()
		w.wantAll("Ask of turned texts")
	}
	for range 3 {
		chase(web, 20)
		chase(mail, 20)
		ask(web, 20)
		if w.use == 3 {
			take(w.fitting(own).bytes(), 20)
		}
		take(failed(3, w.nonce+1), 20)
		take(w.fitting(toEdu).bytes(), 20)
		ask(toEdu, 20)
		take(w.fitting(toB).bytes(), 20)
		take(w.fitting(web).bytes(), 20)
		w.wantState(2, 0, w.sent)
		ask(web, 20)
		chase(mail, 20)
		take(failed(3, w.nonce), 20)
		chase(mail, 20)
		take(w.fitting(toEdu).bytes(), 20)
		take(w.fitting(princ("EDU", "krbtgt/A.EDU")).bytes(), 20)
		w.wantState(3, api.ErrLoop, 2)
		take(w.fitting(web).bytes(), 20)
	}
}

// overlap tells whether two rows have memory in common, their spare room too.
func overlap(a, b []byte) bool {
	if cap(a) == 0 || cap(b) == 0 {
		return false
	}
	p, q := uintptr(unsafe.Pointer(unsafe.SliceData(a))), uintptr(unsafe.Pointer(unsafe.SliceData(b)))
	return p < q+uintptr(cap(b)) && q < p+uintptr(cap(a))
}

// row is a text's bytes, which may not be changed.
func row(s string) []byte { return unsafe.Slice(unsafe.StringData(s), len(s)) }

// P12.4, W6, W7: what is answered is new memory, spare room too: it shares none
// with what was handed in, with what is kept, or with another answer.
func TestAnswersAreNewMemory(t *testing.T) {
	w := watched(t)
	p := princ(strings.Clone("A.EDU"), strings.Clone("joe"))
	w.client, _ = client.New(p, keyOf(1))
	there := [][]byte{row(p.Realm), row(p.Name)}
	// Each row is held against all that were there, and then turned, if it can be.
	look := func(of string, texts []string, b []byte) {
		t.Helper()
		rows := [][]byte{b}
		for _, s := range texts {
			rows = append(rows, row(s))
		}
		for i, a := range rows {
			if slices.ContainsFunc(slices.Concat(there, rows[:i]), func(c []byte) bool { return overlap(a, c) }) {
				t.Errorf("%s answers memory that was there: %q", of, a)
			}
		}
		there = append(there, rows...)
		for i := range b[:cap(b)] {
			b[:cap(b)][i] ^= 0x55
		}
		w.wantAll(of)
	}
	for range 3 {
		target := princ(strings.Clone("B.EDU"), strings.Clone("web"))
		there = append(there, row(target.Realm), row(target.Name))
		realm, b, _ := w.chase(target, 20)
		look("Chase", []string{realm}, b)
		for _, server := range []api.Princ{own, toEdu, toB, princ("B.EDU", "krbtgt//COM/HP"), princ("B.EDU", "web")} {
			if server == own && w.use != 3 {
				continue
			}
			c := w.fitting(server).bytes()
			there = append(there, c)
			realm, b := w.take(c, 20)
			look("Take", []string{realm}, b)
			b, _ = w.ask(server, 20)
			look("Ask", nil, b)
			x, _ := w.cred(server, 20)
			look("Cred", []string{x.Ticket.Server.Realm, x.Ticket.Server.Name}, x.Ticket.Blob)
		}
		w.wantState(2, 0, w.sent)
	}
}

// W7: what was answered stays what it is, whatever is called later.
func TestAnswersStay(t *testing.T) {
	type answer struct {
		realm, wasRealm string
		b, was          []byte
	}
	var l []answer
	keep := func(realm string, b []byte) {
		l = append(l, answer{realm, strings.Clone(realm), b, slices.Clone(b)})
	}
	w := watched(t)
	w.quick = true
	rnd := rand.New(rand.NewSource(122))
	for step := range 600 {
		now := step / 3
		switch n := rnd.Intn(10); {
		case n < 2:
			realm, b, _ := w.chase(web, now)
			keep(realm, b)
		case n < 4:
			b, _ := w.ask([]api.Princ{own, web, toEdu}[rnd.Intn(3)], now)
			keep("", b)
		case n == 4:
			x, _ := w.cred([]api.Princ{own, web, toEdu}[rnd.Intn(3)], now)
			keep(x.Ticket.Server.Name, x.Ticket.Blob)
		case n == 5:
			w.take(failed(7, w.nonce), now)
		default:
			server := []api.Princ{own, toEdu, toB, web}[rnd.Intn(4)]
			if w.use == 3 {
				server = own
			}
			realm, b := w.get(server, now+20, now)
			keep(realm, b)
		}
		for _, a := range l {
			if a.realm != a.wasRealm || !bytes.Equal(a.b, a.was) {
				t.Fatalf("behind step %d what was %q, %x is %q, %x", step, a.wasRealm, a.was, a.realm, a.b)
			}
		}
	}
	if len(l) < 300 {
		t.Errorf("only %d answers were looked at", len(l))
	}
}

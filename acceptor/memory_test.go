package acceptor_test

import (
	"bytes"
	"reflect"
	"slices"
	"testing"
	"unsafe"

	"legate/acceptor"
	"legate/api"
)

// A bag is texts and bytes that can be turned.
type bag struct{ all [][]byte }

func (g *bag) text(s string) string {
	b := []byte(s)
	g.all = append(g.all, b)
	return unsafe.String(unsafe.SliceData(b), len(b))
}

func (g *bag) princ(p api.Princ) api.Princ { return princ(g.text(p.Realm), g.text(p.Name)) }

func (g *bag) topo(t api.Topo) api.Topo {
	var c api.Topo
	for _, r := range t.Realms {
		c.Realms = append(c.Realms, g.text(r))
	}
	for _, l := range t.Links {
		c.Links = append(c.Links, [2]string{g.text(l[0]), g.text(l[1])})
	}
	for _, p := range t.Paths {
		x := api.Path{From: g.text(p.From), To: g.text(p.To)}
		for _, r := range p.Via {
			x.Via = append(x.Via, g.text(r))
		}
		c.Paths = append(c.Paths, x)
	}
	return c
}

// bytes is the same ones, with others ahead and behind.
func (g *bag) bytes(b []byte) []byte {
	c := slices.Concat([]byte("ahead"), b, []byte("what stands behind"))
	g.all = append(g.all, c)
	return c[5 : 5+len(b)]
}

func (g *bag) turn() {
	for _, b := range g.all {
		for i := range b {
			b[i] ^= 0x55
		}
	}
	g.all = nil
}

// P14.3, W6: what is handed in to New is neither changed nor kept, also when it is
// changed later, its lists and its texts.
func TestNothingOfNewIsKept(t *testing.T) {
	var g bag
	w := service(t)
	p, tp := g.princ(web), g.topo(topo())
	// Spare room behind the lists stays, too.
	tp.Realms = append(tp.Realms, "SPARE")[:len(tp.Realms)]
	tp.Links = append(tp.Links, [2]string{"SPARE", "ROOM"})[:len(tp.Links)]
	a, err := acceptor.New(p, tp, w.ring, 0)
	if err != api.OK || p != web || !reflect.DeepEqual(tp, topo()) || tp.Realms[:7][6] != "SPARE" || tp.Links[:5][4] != [2]string{"SPARE", "ROOM"} {
		t.Fatalf("New is %v, and made %s, %s of what was handed in", err, show(p), show(tp))
	}
	w.acceptor = a
	g.turn()
	for i := range tp.Realms {
		tp.Realms[i] = "ORG"
	}
	for i := range tp.Links {
		tp.Links[i] = [2]string{"ORG", "ORG"}
	}
	for i := range tp.Paths {
		for j := range tp.Paths[i].Via {
			tp.Paths[i].Via[j] = "ORG"
		}
		tp.Paths[i] = api.Path{From: "Q.COM", To: "B.EDU", Via: []string{"ORG"}}
	}
	for i, c := range []struct {
		client    api.Princ
		transited string
		err       api.Errno
	}{
		{sue, "COM,EDU", api.OK}, {joe, "EDU", api.OK}, {bob, "", api.OK}, {princ("COM", "sue"), "A.EDU,Q.COM", api.OK}, {princ("/HP/LAB", "sue"), "", api.OK}, {princ("EDU", "sue"), "", api.OK},
		{sue, "ORG", api.ErrPolicy}, {princ("ORG", "sue"), "", api.ErrArg}, {princ("COM", "sue"), "EDU", api.ErrPolicy}, {princ("/HP/LAB", "sue"), "EDU", api.ErrPolicy},
	} {
		p := at(100, 100, i)
		p.client(c.client)
		p.part.Transited = c.transited
		w.want(p, c.err, "a request behind changed texts")
	}
}

// P14.3, W6: what is handed in to Take is neither changed nor kept, nor what stands
// ahead of it and behind; behind each call all of it is turned.
func TestNothingOfTakeIsKept(t *testing.T) {
	var g bag
	w := service(t)
	take := func(p plan, want api.Errno) {
		t.Helper()
		b := p.bytes()
		c := g.bytes(b)
		wantAccept, wantErr := w.modelTake(p)
		x, err := w.acceptor.Take(c, p.now)
		if err != want || err != wantErr || !sameAccept(x, wantAccept) {
			t.Fatalf("Take is %s, %v, not %s, %v", show(x), err, show(wantAccept), wantErr)
		}
		if all := g.all[0]; string(all) != "ahead"+string(b)+"what stands behind" {
			t.Fatalf("what was handed in became %x", all)
		}
		g.turn()
		if !sameAccept(x, wantAccept) {
			t.Fatalf("behind turned bytes what was accepted is %s, not %s", show(x), show(wantAccept))
		}
		w.wantAll()
	}
	for i := range 8 {
		take(at(100, 100, i), api.OK)
		for j := range i + 1 {
			take(at(100, 100, j), api.ErrReplay)
		}
		for _, f := range slices.Concat(ticketFaults(), authnFaults(), wayFaults()) {
			p := goodPlan()
			f.do(&p)
			take(p, f.err)
		}
	}
	take(at(100, 100, 8), api.ErrFull)
}

// P14.3: the Ring has the same keys and Boxes behind all.
func TestTheRingStays(t *testing.T) {
	w := service(t)
	keys := w.ring.Keys()
	for _, f := range faults() {
		p := goodPlan()
		f.do(&p)
		w.take(p)
		w.take(goodPlan())
	}
	w.restart(100)
	w.take(at(101, 106, 1))
	if w.ring.Len() != len(w.keys) || !slices.Equal(w.ring.Keys(), keys) {
		t.Errorf("the Ring became one of %d keys, %x", w.ring.Len(), w.ring.Keys())
	}
	for _, h := range w.keys {
		if box, err := w.ring.Box(h.p, h.kvno); box != h.box || err != api.OK {
			t.Errorf("the Box of %s, %d is %p, %v", show(h.p), h.kvno, box, err)
		}
	}
}

// texts is all texts of an answer.
func texts(x api.Accept) []string {
	return append([]string{x.Client.Realm, x.Client.Name, x.Server.Realm, x.Server.Name}, x.Transited[:cap(x.Transited)]...)
}

// overlap tells whether two texts have memory in common.
func overlap(a, b string) bool {
	if a == "" || b == "" {
		return false
	}
	x, y := uintptr(unsafe.Pointer(unsafe.StringData(a))), uintptr(unsafe.Pointer(unsafe.StringData(b)))
	return x < y+uintptr(len(b)) && y < x+uintptr(len(a))
}

// W6, W7: what is answered is new memory, its texts and its list, spare room too;
// and stays what it is, whatever comes later and whatever is done with another one.
func TestWhatIsAnsweredIsNew(t *testing.T) {
	w := service(t)
	p := princ(string([]byte("B.EDU")), string([]byte("web")))
	tp := topo()
	w.acceptor = newAcceptor(t, p, tp, w.ring, 0)
	handed := slices.Concat(tp.Realms, []string{p.Realm, p.Name})
	var l, wants []api.Accept
	for round := range 6 {
		for _, transited := range []string{"COM,EDU", ",", "EDU", ""} {
			q := at(100+6*round, 100+6*round, len(l))
			q.part.Transited = transited
			b := q.bytes()
			want, _ := w.modelTake(q)
			x, err := w.acceptor.Take(b, q.now)
			if err != api.OK || !sameAccept(x, want) {
				t.Fatalf("Take is %s, %v", show(x), err)
			}
			in := unsafe.String(unsafe.SliceData(b), len(b))
			for i, s := range texts(x) {
				if overlap(s, in) || slices.ContainsFunc(handed, func(h string) bool { return overlap(s, h) }) {
					t.Errorf("the text %s of an answer is what was handed in", show(s))
				}
				for j, y := range l {
					if slices.ContainsFunc(texts(y), func(o string) bool { return overlap(s, o) }) {
						t.Errorf("the text %s of answer %d is one of answer %d", show(s), len(l), j)
					}
				}
				for _, o := range texts(x)[:i] {
					if overlap(s, o) {
						t.Errorf("the text %s is two of one answer", show(s))
					}
				}
			}
			l, wants = append(l, x), append(wants, want)
		}
	}
	for i := range l {
		if !sameAccept(l[i], wants[i]) {
			t.Errorf("answer %d became %s, not %s", i, show(l[i]), show(wants[i]))
		}
		// Whoever got it does with it what he wants.
		for j := range l[i].Transited[:cap(l[i].Transited)] {
			l[i].Transited[:cap(l[i].Transited)][j] = "SPOILED"
		}
		for _, s := range texts(l[i])[:4] {
			b := unsafe.Slice(unsafe.StringData(s), len(s))
			copy(b, bytes.Repeat([]byte{'Z'}, len(b)))
		}
	}
	now := 100 + 6*5 + 2
	w.want(at(now, now, 1), api.OK, "a request behind spoiled answers")
	for seq := range l {
		time := 100 + 6*(seq/4)
		want := api.ErrSkew
		if time >= now-5 {
			want = api.ErrReplay
		}
		w.want(at(now, time, seq), want, "what was accepted")
	}
}

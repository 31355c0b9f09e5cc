package net_test

import (
	"math/rand"
	"slices"
	"testing"
	"unsafe"

	"legate/api"
	"legate/net"
)

const ahead, behind = "what stands ahead", "what stands behind"

// within is a packet whose Data have others ahead and behind, and all of these.
func within(p api.Packet) (api.Packet, []byte) {
	all := slices.Concat([]byte(ahead), p.Data, []byte(behind))
	p.Data = all[len(ahead) : len(ahead)+len(p.Data)]
	return p, all
}

// turn makes other bytes of all of them.
func turn(l ...[]byte) {
	for _, b := range l {
		for i := range b {
			b[i] ^= 0x55
		}
	}
}

// P15.2, W6: what is handed in is neither changed nor kept, nor what stands ahead of
// it and behind, also when the caller changes its Data later; of Sends that answer
// true and of those that answer false.
func TestNothingHandedInIsKept(t *testing.T) {
	for _, there := range []int{0, 1, 30, 31, 32} {
		for _, size := range []int{0, 1, 2, 8, 33, 1999, 2000, 2001} {
			w := of(t, there)
			given, all := within(sized(size))
			was := sized(size)
			want := there < 32 && size >= 1 && size <= 2000
			if ok := w.net.Send(given); ok != want {
				t.Fatalf("of %d Send of %d bytes is %v", there, size, ok)
			}
			if want {
				w.way, w.sent = append(w.way, was), append(w.sent, was)
			}
			wantRoom := func() {
				t.Helper()
				w.wantAll()
				if string(all) != ahead+string(was.Data)+behind || given.From != 1 || given.To != 2 {
					t.Fatalf("what was handed in became %q", all)
				}
			}
			wantRoom()
			w.twice(there)
			wantRoom()
			turn(all)
			w.wantAll()
			w.twice(there)
			w.pull(there)
			turn(all)
			w.send(packet(70))
			turn(all[len(ahead):])
			for len(w.way) > 0 {
				w.wantPull(len(w.way)-1, true)
			}
		}
	}
}

// P15.2: one row of bytes that is handed in again and again, other ones each time.
func TestOneRowForAll(t *testing.T) {
	w, row := watched(t), make([]byte, 0, 100)
	for i := range 60 {
		row = append(row[:0], packet(i).Data...)
		w.what = "one row"
		w.send(api.Packet{From: i, To: 100 + i, Data: row})
		if i%3 == 2 {
			w.wantPull(i%2, true)
		}
	}
	turn(row[:cap(row)])
	w.wantAll()
}

// overlap tells whether two rows have memory in common, their spare room too.
func overlap(a, b []byte) bool {
	if cap(a) == 0 || cap(b) == 0 {
		return false
	}
	p, q := uintptr(unsafe.Pointer(unsafe.SliceData(a))), uintptr(unsafe.Pointer(unsafe.SliceData(b)))
	return p < q+uintptr(cap(b)) && q < p+uintptr(cap(a))
}

// answers are rows of bytes that were handed in or answered, and that are all of
// them rows of their own.
type answers struct {
	t   *testing.T
	all [][]byte
}

func (a *answers) add(what string, b []byte) {
	a.t.Helper()
	for _, o := range a.all {
		if overlap(b, o) {
			a.t.Errorf("%s answers memory that was there", what)
		}
	}
	a.all = append(a.all, b)
}

// P15.2, W6: what Pull, At and Seen answer is memory of its own, spare room too: it
// is none that was handed in, or kept, or that another answer has; also between one
// that was doubled and its double. All of it is turned, and nothing has changed.
func TestAnswersAreNewMemory(t *testing.T) {
	for _, size := range []int{1, 3, 8, 9, 31, 32, 33, 100, 800, 1023, 1999, 2000} {
		w, a := watched(t), &answers{t: t}
		for range 3 {
			p := sized(size)
			a.add("handing in", p.Data)
			w.wantSend(p, true)
		}
		for i := range 3 {
			w.wantTwice(i, true)
			w.wantTwice(i, true)
		}
		for range 3 {
			for i := range w.way {
				p, _ := w.net.At(i)
				a.add("At", p.Data)
			}
			for _, p := range w.net.Seen() {
				a.add("Seen", p.Data)
			}
			for _, b := range a.all {
				turn(b[:cap(b)])
			}
			w.wantAll()
		}
		for len(w.way) > 0 {
			p, ok := w.net.Pull(len(w.way) / 2)
			if !ok || !same(p, sized(size)) {
				t.Fatalf("behind turned answers Pull is %s, %v", show(p), ok)
			}
			w.way = w.way[1:]
			a.add("Pull", p.Data)
			turn(p.Data[:cap(p.Data)])
			w.wantAll()
		}
		for _, p := range w.net.Seen() {
			a.add("Seen", p.Data)
		}
	}
}

// P15.2: the list of Seen is another one each time, spare room too: what is laid
// into it, or behind it, is in no other one.
func TestListsOfSeen(t *testing.T) {
	for _, count := range []int{0, 1, 2, 3, 4, 5, 7, 8, 9, 31, 32} {
		w := of(t, count)
		x, y := w.net.Seen(), w.net.Seen()
		was := w.net.Seen()
		for i := range x {
			x[i].From, x[i].To, x[i].Data = -1, -2, nil
		}
		for i := range x[:cap(x)] {
			x[:cap(x)][i] = packet(-7)
		}
		x = append(x, packet(-1), packet(-2))
		w.wantAll()
		for i, p := range y {
			if !same(p, was[i]) {
				t.Errorf("of %d an answer of Seen became %s at %d", count, show(p), i)
			}
		}
		w.send(packet(count))
		w.wantPull(0, true)
		if len(y) != count || len(was) != count || len(x) != count+2 {
			t.Errorf("of %d an answer of Seen became longer", count)
		}
	}
}

// P15.2: what was Pulled can be sent again, and is another one then.
func TestAnswersThatAreSentAgain(t *testing.T) {
	w := of(t, 4)
	w.wantTwice(1, true)
	a, _ := w.net.At(1)
	w.wantSend(a, true)
	seen := w.net.Seen()
	w.wantSend(seen[2], true)
	p, ok := w.net.Pull(0)
	if !ok || !same(p, packet(0)) {
		t.Fatalf("Pull(0) is %s, %v", show(p), ok)
	}
	w.way = w.way[1:]
	w.wantSend(p, true)
	for _, x := range append(seen, a, p) {
		turn(x.Data[:cap(x.Data)])
	}
	w.wantAll()
}

// W7: what was answered stays what it is, whatever is called later.
func TestAnswersStay(t *testing.T) {
	type answer struct{ got, was api.Packet }
	rnd := rand.New(rand.NewSource(151))
	n, l := net.New(), []answer{}
	note := func(p api.Packet, ok bool) {
		if ok {
			l = append(l, answer{p, copied(p)})
		}
	}
	for step := range 500 {
		switch rnd.Intn(6) {
		case 0, 1:
			n.Send(packet(step))
		case 2:
			n.Twice(rnd.Intn(32))
		case 3:
			note(n.Pull(rnd.Intn(8)))
		case 4:
			note(n.At(rnd.Intn(32)))
		default:
			for _, p := range n.Seen() {
				note(p, rnd.Intn(20) == 0)
			}
		}
		for _, a := range l {
			if !same(a.got, a.was) {
				t.Fatalf("behind step %d what was %s is %s", step, show(a.was), show(a.got))
			}
		}
	}
	if len(l) < 200 {
		t.Errorf("only %d answers were looked at", len(l))
	}
}

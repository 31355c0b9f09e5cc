package net_test

import (
	"bytes"
	"math"
	"strconv"
	"testing"

	"legate/api"
	"legate/net"
)

// packet is one that is unlike those of other numbers in each field.
func packet(n int) api.Packet {
	return api.Packet{From: n, To: 100 + n, Data: []byte("data " + strconv.Itoa(n))}
}

// sized is a packet with so many bytes.
func sized(n int) api.Packet {
	p := api.Packet{From: 1, To: 2, Data: make([]byte, n)}
	for i := range p.Data {
		p.Data[i] = byte(i + i/256)
	}
	return p
}

// copied is a packet with bytes of its own.
func copied(p api.Packet) api.Packet {
	p.Data = append([]byte(nil), p.Data...)
	return p
}

func same(a, b api.Packet) bool {
	return a.From == b.From && a.To == b.To && bytes.Equal(a.Data, b.Data)
}

// show is a packet, short enough to be read.
func show(p api.Packet) string {
	return strconv.Itoa(p.From) + " to " + strconv.Itoa(p.To) + ", " + strconv.Itoa(len(p.Data)) + " bytes " + strconv.QuoteToASCII(string(p.Data[:min(len(p.Data), 40)]))
}

// outside are places that are none of so many.
func outside(count int) []int {
	return []int{
		math.MinInt, math.MinInt + 1, -1 << 32, -1<<32 + 1, -1 << 31, -256, -33, -32, -count - 1, -max(count, 1), -2, -1,
		count, count + 1, count + 2, 32 + count, 33 + count, 256 + count, 1<<16 + count, 1 << 31, 1 << 32, 1<<32 + count, 1 << 62, math.MaxInt - 1, math.MaxInt,
	}
}

// A watch is a Net, and what has to be in it: the model, by what is sent as it was
// then.
type watch struct {
	t    *testing.T
	net  *net.Net
	way  []api.Packet
	sent []api.Packet
	what string
}

func watched(t *testing.T) *watch {
	t.Helper()
	w := &watch{t: t, net: net.New(), what: "New"}
	w.wantAll()
	return w
}

// of is a watch of so many, that were Sent.
func of(t *testing.T, count int) *watch {
	t.Helper()
	w := watched(t)
	for i := range count {
		w.wantSend(packet(i), true)
	}
	return w
}

// send wants what the document says of Send, and that all is there behind it.
func (w *watch) send(p api.Packet) bool {
	w.t.Helper()
	want := len(w.way) < 32 && len(p.Data) >= 1 && len(p.Data) <= 2000
	was := copied(p)
	ok := w.net.Send(p)
	w.what += "; Send of " + show(was)
	if ok != want {
		w.t.Fatalf("%s: it is %v, not %v", w.what, ok, want)
	}
	if !same(p, was) {
		w.t.Fatalf("%s: what was handed in became %s", w.what, show(p))
	}
	if want {
		w.way = append(w.way, was)
		w.sent = append(w.sent, was)
	}
	w.wantAll()
	return ok
}

// pull wants what the document says of Pull.
func (w *watch) pull(i int) bool {
	w.t.Helper()
	var want api.Packet
	var left []api.Packet
	for j, p := range w.way {
		if j == i {
			want = p
		} else {
			left = append(left, p)
		}
	}
	wantOk := len(left) < len(w.way)
	p, ok := w.net.Pull(i)
	w.what += "; Pull(" + strconv.Itoa(i) + ")"
	if ok != wantOk || !same(p, want) || !ok && p.Data != nil {
		w.t.Fatalf("%s: it is %s, %v, not %s, %v", w.what, show(p), ok, show(want), wantOk)
	}
	w.way = left
	w.wantAll()
	return ok
}

// twice wants what the document says of Twice.
func (w *watch) twice(i int) bool {
	w.t.Helper()
	want := i >= 0 && i < len(w.way) && len(w.way) < 32
	ok := w.net.Twice(i)
	w.what += "; Twice(" + strconv.Itoa(i) + ")"
	if ok != want {
		w.t.Fatalf("%s: it is %v, not %v", w.what, ok, want)
	}
	if want {
		w.way = append(w.way, w.way[i])
	}
	w.wantAll()
	return ok
}

// wantSend is send, where it is told what comes of it; wantPull and wantTwice are
// likewise.
func (w *watch) wantSend(p api.Packet, want bool) {
	w.t.Helper()
	if ok := w.send(p); ok != want {
		w.t.Fatalf("%s: it is %v, not %v", w.what, ok, want)
	}
}

func (w *watch) wantPull(i int, want bool) {
	w.t.Helper()
	if ok := w.pull(i); ok != want {
		w.t.Fatalf("%s: it is %v, not %v", w.what, ok, want)
	}
}

func (w *watch) wantTwice(i int, want bool) {
	w.t.Helper()
	if ok := w.twice(i); ok != want {
		w.t.Fatalf("%s: it is %v, not %v", w.what, ok, want)
	}
}

// wantAll wants just what is on its way, place by place, and all that were Sent;
// twice alike, as none of these questions changes anything.
func (w *watch) wantAll() {
	w.t.Helper()
	for range 2 {
		w.wantLen()
		for i := -2; i < len(w.way)+2; i++ {
			w.at(i)
		}
		w.wantSeen()
	}
	w.wantLen()
}

func (w *watch) wantLen() {
	w.t.Helper()
	if n := w.net.Len(); n != len(w.way) {
		w.t.Fatalf("%s: Len is %d, not %d", w.what, n, len(w.way))
	}
}

func (w *watch) at(i int) {
	w.t.Helper()
	var want api.Packet
	wantOk := i >= 0 && i < len(w.way)
	if wantOk {
		want = w.way[i]
	}
	p, ok := w.net.At(i)
	if ok != wantOk || !same(p, want) || !ok && p.Data != nil {
		w.t.Fatalf("%s: At(%d) is %s, %v, not %s, %v", w.what, i, show(p), ok, show(want), wantOk)
	}
}

func (w *watch) wantSeen() {
	w.t.Helper()
	l := w.net.Seen()
	if len(l) != len(w.sent) {
		w.t.Fatalf("%s: Seen are %d, not %d", w.what, len(l), len(w.sent))
	}
	for i, p := range l {
		if !same(p, w.sent[i]) {
			w.t.Fatalf("%s: Seen has %s at %d, not %s", w.what, show(p), i, show(w.sent[i]))
		}
	}
}

// wantWay wants packets of those numbers on their way, and of as many as were told
// to be Sent.
func (w *watch) wantWay(sent int, numbers ...int) {
	w.t.Helper()
	if n := w.net.Len(); n != len(numbers) {
		w.t.Fatalf("%s: Len is %d, not %d", w.what, n, len(numbers))
	}
	for i, n := range numbers {
		if p, ok := w.net.At(i); !ok || !same(p, packet(n)) {
			w.t.Fatalf("%s: At(%d) is %s, %v, not %s", w.what, i, show(p), ok, show(packet(n)))
		}
	}
	l := w.net.Seen()
	if len(l) != sent {
		w.t.Fatalf("%s: Seen are %d, not %d", w.what, len(l), sent)
	}
	for i, p := range l {
		if !same(p, packet(i)) {
			w.t.Fatalf("%s: Seen has %s at %d, not %s", w.what, show(p), i, show(packet(i)))
		}
	}
}

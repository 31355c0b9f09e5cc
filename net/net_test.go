package net_test

import (
	"math"
	"math/rand"
	"slices"
	"strconv"
	"sync"
	"testing"

	"legate/api"
	"legate/net"
)

func TestTheExample(t *testing.T) {
	n := net.New()
	if n == nil || n.Len() != 0 || len(n.Seen()) != 0 {
		t.Fatal("New is not one of none")
	}
	if !n.Send(packet(7)) || !n.Twice(0) {
		t.Error("Send or Twice(0) is false")
	}
	if n.Len() != 2 {
		t.Errorf("Len is %d, not 2", n.Len())
	}
	for i := range 2 {
		if p, ok := n.At(i); !ok || !same(p, packet(7)) {
			t.Errorf("At(%d) is %s, %v", i, show(p), ok)
		}
	}
	if l := n.Seen(); len(l) != 1 || !same(l[0], packet(7)) {
		t.Errorf("Seen are %d, not the one that was Sent", len(l))
	}
}

// P15.1: MaxPackets is 32, MaxMsg is 2000, as the tests take them.
func TestLimits(t *testing.T) {
	if api.MaxPackets != 32 || api.MaxMsg != 2000 {
		t.Error("the limits are others than the tests take")
	}
}

// P15.1: Data of no bytes, of one, of MaxMsg and of one more, of Nets of each count:
// what is refused is not there.
func TestHowManyBytes(t *testing.T) {
	for count := range 33 {
		for _, size := range []int{0, 1, 2, 3, 255, 256, 799, 800, 801, 1999, 2000, 2001, 2002, 2256, 4000, 1 << 16, 1<<16 + 1, 1 << 20} {
			w := of(t, count)
			want := count < 32 && size >= 1 && size <= 2000
			for range 2 {
				w.wantSend(sized(size), want && len(w.way) < 32)
			}
			w.wantPull(count, want)
			if !want {
				w.wantPull(0, count > 0)
				w.wantSend(sized(size), size >= 1 && size <= 2000)
			}
		}
	}
}

// P15.1: each number of bytes up to MaxMsg and some more.
func TestEachNumberOfBytes(t *testing.T) {
	n := net.New()
	for size := range 2100 {
		want := size >= 1 && size <= 2000
		if ok := n.Send(sized(size)); ok != want {
			t.Fatalf("Send of %d bytes is %v", size, ok)
		}
		p, ok := n.Pull(0)
		if ok != want || want && !same(p, sized(size)) {
			t.Fatalf("behind Send of %d bytes Pull is %s, %v", size, show(p), ok)
		}
	}
	if len(n.Seen()) != 2000 {
		t.Errorf("Seen are %d, not 2000", len(n.Seen()))
	}
}

// W5: no bytes are none, whether there is a list or not, and room in it or not.
func TestNoBytes(t *testing.T) {
	for _, b := range [][]byte{nil, {}, make([]byte, 0, 100), []byte("spare room")[:0]} {
		for _, count := range []int{0, 1, 31, 32} {
			w := of(t, count)
			w.wantSend(api.Packet{From: 1, To: 2, Data: b}, false)
			w.wantSend(api.Packet{Data: b}, false)
			w.wantSend(packet(50), count < 32)
		}
	}
}

// P15.1: MaxPackets are there, by Sends, by Twices, by both: nothing is sent or
// doubled, till one is Pulled, from wherever; then just one.
func TestFull(t *testing.T) {
	fills := map[string]func(w *watch){
		"Sends":  func(w *watch) { w.wantSend(packet(len(w.sent)), true) },
		"Twices": func(w *watch) { w.wantTwice(len(w.way)/2, true) },
		"both": func(w *watch) {
			if len(w.way)%2 == 0 {
				w.wantTwice(0, true)
			} else {
				w.wantSend(packet(len(w.sent)), true)
			}
		},
	}
	for name, fill := range fills {
		t.Run(name, func(t *testing.T) {
			for _, from := range []int{0, 1, 15, 16, 30, 31} {
				w := of(t, 1)
				for len(w.way) < 32 {
					fill(w)
				}
				refuse := func() {
					w.t.Helper()
					w.wantSend(packet(99), false)
					w.wantSend(sized(1), false)
					w.wantSend(sized(2000), false)
					for i := -1; i < 34; i++ {
						w.wantTwice(i, false)
					}
				}
				refuse()
				w.wantPull(32, false)
				w.wantPull(-1, false)
				refuse()
				w.wantPull(from, true)
				w.wantSend(packet(len(w.sent)), true)
				refuse()
				w.wantPull(from, true)
				w.wantTwice(from, from < 31)
				if from == 31 {
					w.wantTwice(30, true)
				}
				refuse()
				w.wantPull(from, true)
				w.wantPull(0, true)
				w.wantTwice(29, true)
				w.wantSend(packet(len(w.sent)), true)
				refuse()
			}
		})
	}
}

// P15.1: one fewer than MaxPackets: one is sent, or each of them can be doubled, and
// then nothing more.
func TestOneFewer(t *testing.T) {
	w := of(t, 31)
	w.wantSend(packet(31), true)
	w.wantSend(packet(32), false)
	for i := range 31 {
		w := of(t, 31)
		w.wantTwice(31, false)
		w.wantTwice(-1, false)
		w.wantTwice(i, true)
		w.wantTwice(i, false)
		w.wantTwice(31, false)
		w.wantSend(packet(31), false)
	}
}

// P15.1: what stands behind all, and in which order, written out.
func TestWrittenOrder(t *testing.T) {
	w := watched(t)
	w.wantWay(0)
	w.wantSend(packet(0), true)
	w.wantWay(1, 0)
	w.wantSend(packet(1), true)
	w.wantSend(packet(2), true)
	w.wantSend(packet(3), true)
	w.wantWay(4, 0, 1, 2, 3)
	w.wantPull(0, true) // from the front
	w.wantWay(4, 1, 2, 3)
	w.wantSend(packet(4), true)
	w.wantWay(5, 1, 2, 3, 4)
	w.wantPull(1, true) // from the middle
	w.wantWay(5, 1, 3, 4)
	w.wantTwice(0, true)
	w.wantWay(5, 1, 3, 4, 1)
	w.wantTwice(1, true)
	w.wantWay(5, 1, 3, 4, 1, 3)
	w.wantTwice(4, true) // a double is doubled
	w.wantWay(5, 1, 3, 4, 1, 3, 3)
	w.wantPull(5, true) // from the end
	w.wantWay(5, 1, 3, 4, 1, 3)
	w.wantPull(0, true) // its double stays
	w.wantWay(5, 3, 4, 1, 3)
	w.wantSend(packet(5), true)
	w.wantWay(6, 3, 4, 1, 3, 5)
	w.wantPull(4, true)
	w.wantPull(3, true) // the double goes, it stays
	w.wantWay(6, 3, 4, 1)
	w.wantPull(2, true) // the last one that came of the first Send but one
	w.wantPull(0, true)
	w.wantPull(0, true)
	w.wantWay(6)
	w.wantTwice(0, false)
	w.wantPull(0, false)
	w.wantSend(packet(6), true)
	w.wantWay(7, 6)
}

// P15.1: of each count, Pull of each place, then of each place of those that are
// left; what is told and what is left is just in order.
func TestPullOfEachPlace(t *testing.T) {
	for count := 1; count <= 32; count++ {
		for i := range count {
			w := of(t, count)
			p, ok := w.net.Pull(i)
			if !ok || !same(p, packet(i)) {
				t.Fatalf("of %d Pull(%d) is %s, %v", count, i, show(p), ok)
			}
			var left []int
			for j := range count {
				if j != i {
					left = append(left, j)
				}
			}
			w.wantWay(count, left...)
			w.way = slices.Delete(w.way, i, i+1)
			w.wantSend(packet(count), true)
			w.wantWay(count+1, append(left, count)...)
			w.wantPull(i, true)
			w.wantPull(max(0, i-1), count > 1)
		}
	}
}

// P15.1: of each count, Twice of each place: it stands behind all, the others where
// they were; and once more.
func TestTwiceOfEachPlace(t *testing.T) {
	for count := range 33 {
		var there []int
		for i := range count {
			there = append(there, i)
		}
		for i := range count {
			w := of(t, count)
			w.wantTwice(i, count < 32)
			if count == 32 {
				w.wantWay(32, there...)
				continue
			}
			w.wantWay(count, append(slices.Clone(there), i)...)
			w.wantTwice(count, count < 31)
			w.wantPull(i, true)
			w.wantTwice(count-1, true)
			w.wantSend(packet(count), len(w.way) < 32)
		}
	}
}

// P15.1, W3: places where there is none, of each count: nothing is told, nothing
// has changed.
func TestPlacesOfNone(t *testing.T) {
	for count := range 33 {
		w := of(t, count)
		for _, i := range outside(count) {
			w.what = "of " + strconv.Itoa(count)
			w.at(i)
			w.wantPull(i, false)
			w.wantTwice(i, false)
		}
		if count == 0 {
			continue
		}
		w.at(count - 1)
		w.wantTwice(count-1, count < 32)
		w.wantPull(count-1, true)
		w.wantPull(0, true)
		for _, i := range outside(len(w.way)) {
			w.at(i)
			w.wantPull(i, false)
			w.wantTwice(i, false)
		}
	}
}

// P15.1: At is that from 0 on, twice alike, and changes nothing, in whatever order
// it is asked.
func TestAt(t *testing.T) {
	for count := range 33 {
		w := of(t, count)
		for range 2 {
			for i := range count {
				for range 2 {
					if p, ok := w.net.At(i); !ok || !same(p, packet(i)) {
						t.Fatalf("of %d At(%d) is %s, %v", count, i, show(p), ok)
					}
				}
			}
			for i := count - 1; i >= 0; i-- {
				w.at(i)
			}
		}
		w.wantAll()
	}
}

// P15.1: Len behind each call that changes something, and behind each that doesn't,
// without any other question between.
func TestLen(t *testing.T) {
	n := net.New()
	want := func(count int, behind string) {
		t.Helper()
		if n.Len() != count {
			t.Fatalf("behind %s Len is %d, not %d", behind, n.Len(), count)
		}
	}
	want(0, "New")
	for i := range 40 {
		n.Send(packet(i))
		want(min(i+1, 32), "Send")
		n.Send(sized(0))
		want(min(i+1, 32), "Send of no bytes")
		n.At(i)
		want(min(i+1, 32), "At")
		n.Seen()
		want(min(i+1, 32), "Seen")
	}
	for i := 31; i >= 0; i-- {
		n.Pull(32)
		want(i+1, "Pull of none")
		n.Pull(i / 2)
		want(i, "Pull")
	}
	n.Pull(0)
	n.Twice(0)
	want(0, "Pull and Twice of none")
	n.Send(packet(1))
	for i := range 40 {
		n.Twice(i)
		want(min(i+2, 32), "Twice")
		n.Twice(32)
		want(min(i+2, 32), "Twice of none")
	}
}

// P15.1: Seen are those that were Sent with true alone, in order; also when they
// were Pulled long ago, none for a Twice, none for a Send that answered false, more
// than MaxPackets of them.
func TestSeen(t *testing.T) {
	w := watched(t)
	for i := range 100 {
		w.what = strconv.Itoa(i) + " Sent"
		w.wantSend(packet(i), true)
		w.wantSend(sized(0), false)
		w.wantSend(sized(2001), false)
		w.wantTwice(len(w.way)-1, true)
		w.wantTwice(0, true)
		w.wantTwice(99, false)
		for len(w.way) > i%30 {
			w.wantPull(len(w.way)*(i%3)/3, true)
		}
	}
	for len(w.way) > 0 {
		w.wantPull(0, true)
	}
	w.wantWay(100)
	for i := range 40 {
		w.wantSend(packet(100+i), i < 32)
	}
	var last []int
	for i := range 32 {
		last = append(last, 100+i)
	}
	w.wantWay(132, last...)
}

// P15.1: many that were Sent and Pulled: all are Seen.
func TestManySeen(t *testing.T) {
	n := net.New()
	for i := range 20000 {
		if !n.Send(packet(i)) {
			t.Fatalf("Send of %d is false", i)
		}
		if n.Len() == 32 {
			for range 20 {
				n.Pull(n.Len() * (i % 3) / 3)
			}
		}
	}
	l := n.Seen()
	if len(l) != 20000 {
		t.Fatalf("Seen are %d", len(l))
	}
	for i, p := range l {
		if !same(p, packet(i)) {
			t.Fatalf("Seen has %s at %d", show(p), i)
		}
	}
}

// P15.1: ones that are alike are as many as were Sent, and each Sent is Seen.
func TestOnesThatAreAlike(t *testing.T) {
	w := watched(t)
	for range 5 {
		w.wantSend(packet(1), true)
		w.wantSend(packet(2), true)
	}
	w.wantTwice(0, true)
	w.wantPull(3, true)
	w.wantPull(0, true)
	if len(w.net.Seen()) != 10 || w.net.Len() != 9 {
		t.Errorf("Seen are %d, Len is %d", len(w.net.Seen()), w.net.Len())
	}
}

// P15.1: all fields are told as they were: From and To may be any numbers, Data any
// bytes.
func TestAllFields(t *testing.T) {
	numbers := []int{math.MinInt, -1 << 32, -1 << 31, -1, 0, 1, 5, 6, 99, 100, 102, 103, 199, 200, 202, 203, 299, 300, 301, 1 << 31, 1 << 32, 1<<32 + 1, math.MaxInt}
	for _, from := range numbers {
		w := watched(t)
		for _, to := range numbers {
			w.wantSend(api.Packet{From: from, To: to, Data: []byte{1}}, true)
			w.wantTwice(0, true)
			w.wantPull(len(w.way)-1, true)
			w.wantPull(0, true)
		}
	}
	for _, size := range []int{1, 2, 7, 2000} {
		w := watched(t)
		for b := range 256 {
			p := sized(size)
			p.Data[b%size] = byte(b)
			w.what = "byte " + strconv.Itoa(b)
			w.wantSend(p, true)
			if len(w.way) == 32 {
				w.way, w.sent, w.net = nil, nil, net.New()
			}
		}
	}
	for b := range 256 {
		w := watched(t)
		w.wantSend(api.Packet{Data: []byte{byte(b)}}, true)
		w.wantPull(0, true)
	}
}

// P15.1: all scripts of five calls, of Nets of none, of one, of two, and some of them
// of nearly MaxPackets.
func TestAllShortScripts(t *testing.T) {
	const kinds = 8
	for _, there := range []int{0, 1, 2, 30, 31} {
		begin := of(t, there)
		for script := range kinds * kinds * kinds * kinds * kinds {
			// These take longest; every 13th still meets each kind at each step.
			if there > 2 && script%13 != 0 {
				continue
			}
			w := &watch{t: t, net: net.New(), what: "of " + strconv.Itoa(there)}
			for _, p := range begin.way {
				w.net.Send(p)
				w.way, w.sent = append(w.way, p), append(w.sent, p)
			}
			for left, step := script, 0; step < 5; left, step = left/kinds, step+1 {
				w.do(left%kinds, 50+step)
			}
		}
	}
}

// do is one call of a script.
func (w *watch) do(kind, number int) {
	w.t.Helper()
	switch last := len(w.way) - 1; kind {
	case 0:
		w.send(packet(number))
	case 1:
		w.send(sized(2001 * (number % 2)))
	case 2:
		w.pull(0)
	case 3:
		w.pull(last)
	case 4:
		w.pull((last + 1) / 2)
	case 5:
		w.twice(0)
	case 6:
		w.twice(last)
	default:
		w.twice((last + 1) / 2)
	}
}

// P15.1, W2: scripts of many calls, on two Nets in turn, against the model: what is
// done with the one changes nothing in the other.
func TestRandomScripts(t *testing.T) {
	rnd := rand.New(rand.NewSource(150))
	count := map[string]int{}
	for range 60 {
		l := []*watch{watched(t), watched(t)}
		sends, twices := 1+rnd.Intn(5), rnd.Intn(4)
		for step := range 150 {
			w := l[rnd.Intn(2)]
			w.what = "step " + strconv.Itoa(step)
			place := rnd.Intn(len(w.way)+3) - 1
			switch n := rnd.Intn(sends + twices + 3); {
			case n < sends:
				p := sized(rnd.Intn(40))
				if rnd.Intn(10) == 0 {
					p = sized(1995 + rnd.Intn(10))
				}
				p.From, p.To = rnd.Intn(301), rnd.Intn(301)
				rnd.Read(p.Data)
				count["Send "+strconv.FormatBool(w.send(p))]++
			case n < sends+twices:
				count["Twice "+strconv.FormatBool(w.twice(place))]++
			default:
				count["Pull "+strconv.FormatBool(w.pull(place))]++
			}
			l[0].wantLen()
			l[1].wantLen()
		}
		l[0].wantAll()
		l[1].wantAll()
	}
	for _, what := range []string{"Send true", "Send false", "Twice true", "Twice false", "Pull true", "Pull false"} {
		if count[what] < 200 {
			t.Errorf("%s came only %d times", what, count[what])
		}
	}
}

// P15.1: two Nets have nothing in common.
func TestTwoNets(t *testing.T) {
	v, w := of(t, 32), watched(t)
	w.wantSend(packet(0), true)
	w.wantTwice(0, true)
	v.wantSend(packet(32), false)
	for range 20 {
		v.wantPull(5, true)
	}
	w.wantAll()
	p, _ := v.net.At(3)
	w.wantSend(p, true)
	v.wantAll()
	w.wantPull(0, true)
	v.wantAll()
}

// W2: many at a time: Nets that are asked by a goroutine each, and a nil one by all
// of them, tell what they tell one behind the other.
func TestManyAtATime(t *testing.T) {
	var all sync.WaitGroup
	var none *net.Net
	script := func(seed int64) string {
		rnd, n, got := rand.New(rand.NewSource(seed)), net.New(), ""
		for range 400 {
			p, ok := n.Pull(rnd.Intn(60))
			got += show(p) + strconv.FormatBool(ok) + strconv.FormatBool(n.Send(packet(rnd.Intn(9)))) + strconv.FormatBool(n.Twice(rnd.Intn(40)))
			p, ok = n.At(rnd.Intn(40))
			got += show(p) + strconv.FormatBool(ok) + strconv.Itoa(n.Len()+none.Len()) + strconv.FormatBool(none.Send(p) || none.Twice(0))
		}
		for _, p := range n.Seen() {
			got += show(p)
		}
		return got
	}
	told := make([]string, 24)
	for i := range told {
		all.Go(func() { told[i] = script(int64(i)) })
	}
	all.Wait()
	for i := range told {
		if told[i] != script(int64(i)) {
			t.Errorf("Net %d tells something else at a time with others", i)
		}
	}
}

// P15.2: of a nil Net nothing is sent, nothing told.
func TestNilNet(t *testing.T) {
	var n *net.Net
	for range 2 {
		for _, size := range []int{0, 1, 2000, 2001} {
			if n.Send(sized(size)) {
				t.Errorf("a nil Net sends %d bytes", size)
			}
		}
		for _, i := range append(outside(0), 0, 31, 32) {
			if p, ok := n.Pull(i); ok || !same(p, api.Packet{}) || p.Data != nil {
				t.Errorf("Pull(%d) of a nil Net is %s, %v", i, show(p), ok)
			}
			if p, ok := n.At(i); ok || !same(p, api.Packet{}) || p.Data != nil {
				t.Errorf("At(%d) of a nil Net is %s, %v", i, show(p), ok)
			}
			if n.Twice(i) {
				t.Errorf("Twice(%d) of a nil Net is true", i)
			}
		}
		if n.Len() != 0 || len(n.Seen()) != 0 {
			t.Errorf("a nil Net has %d, and %d were Seen", n.Len(), len(n.Seen()))
		}
	}
	if n != nil {
		t.Error("a nil Net became one")
	}
}

// W1, W8: a Net that New didn't make has nothing, and one that was copied goes on
// with what it has.
func TestOtherNets(t *testing.T) {
	var n net.Net
	w := &watch{t: t, net: &n, what: "a Net"}
	w.wantAll()
	w.wantPull(0, false)
	w.wantTwice(0, false)
	for i := range 5 {
		w.wantSend(packet(i), true)
	}
	w.wantTwice(2, true)
	c := n
	w.net = &c
	w.wantAll()
	w.wantPull(1, true)
	w.wantTwice(0, true)
	w.wantSend(packet(5), true)
}

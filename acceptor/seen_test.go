package acceptor_test

import (
	"math"
	"math/rand"
	"slices"
	"sync"
	"testing"

	"legate/acceptor"
	"legate/api"
	"legate/ring"
)

// P14.1, P13.1: each Time around now, at times from the first to the last one.
func TestSkews(t *testing.T) {
	for _, now := range []int{0, 1, 4, 5, 6, 100, 1<<30 - 6, 1<<30 - 5, 1<<30 - 1, 1 << 30} {
		for time := max(0, now-9); time <= min(1<<30, now+9); time++ {
			want := api.ErrSkew
			if time >= now-5 && time <= now+5 {
				want = api.OK
			}
			w := service(t)
			w.want(at(now, time, 1), want, "a Time")
			if want == api.OK {
				w.want(at(now, time, 1), api.ErrReplay, "the same again")
			}
		}
	}
}

// P13.2, P0.3: the same one again, as long as it is near, and behind that; others
// of one Time, of one Seq, of one Client are others.
func TestTheSameAgain(t *testing.T) {
	w := service(t)
	w.want(at(100, 103, 1), api.OK, "the first")
	for now := 100; now <= 108; now++ {
		for range 2 {
			w.want(at(now, 103, 1), api.ErrReplay, "the same again")
		}
	}
	for now := 109; now <= 120; now++ {
		w.want(at(now, 103, 1), api.ErrSkew, "the same again, late")
	}
	w = service(t)
	w.want(at(100, 100, 1), api.OK, "the first")
	w.want(at(100, 100, 2), api.OK, "another Seq")
	w.want(at(100, 101, 1), api.OK, "another Time")
	p := at(100, 100, 1)
	p.client(joe)
	p.part.Transited = ""
	w.want(p, api.OK, "another Client")
	for _, p := range []plan{at(100, 100, 1), at(100, 100, 2), at(100, 101, 1), p} {
		w.want(p, api.ErrReplay, "one of four again")
	}
}

// P13.2: what is seen is the authenticator: in whatever ticket it comes, sealed
// with whatever nonce, it is the same.
func TestTheSameInAnotherTicket(t *testing.T) {
	w := service(t)
	w.want(goodPlan(), api.OK, "the first")
	p := goodPlan()
	p.kvno, p.lock = 3, keyOf(keyWeb3)
	w.want(p, api.ErrReplay, "the same in a ticket of another key")
	p = goodPlan()
	p.part.Session, p.holder = keyOf(901), keyOf(901)
	w.want(p, api.ErrReplay, "the same with another session")
	p = goodPlan()
	p.part.Start, p.part.End, p.part.Transited = 0, 100, "EDU"
	w.want(p, api.ErrReplay, "the same in a ticket of other times and another way")
}

// P14.1, P13.1: eight are there, the ninth is refused, until the first one is old.
func TestTooMany(t *testing.T) {
	w := service(t)
	for i := range 8 {
		w.want(at(100+i/4, 100+i/4, i), api.OK, "one of eight")
	}
	for now := 101; now <= 105; now++ {
		w.want(at(now, now, 9), api.ErrFull, "a ninth")
		w.want(at(now, 100, 0), api.ErrReplay, "the first again")
	}
	w.want(at(106, 106, 9), api.OK, "where four have gone")
	fill(w, 106, 106, 3)
	w.want(at(106, 106, 10), api.ErrFull, "where eight are there again")
	w.want(at(106, 100, 0), api.ErrSkew, "the first again, late")
	w.want(at(107, 107, 10), api.OK, "where four more have gone")
}

// P14.1, P13.2: one that began at some time takes those alone that are more than
// Skew behind that; one that began at 0 takes all that are near.
func TestBeginnings(t *testing.T) {
	for _, start := range []int{0, 1, 2, 5, 6, 100, 1<<30 - 20, 1<<30 - 6, 1<<30 - 5, 1 << 30} {
		for now := start; now <= min(1<<30, start+12); now++ {
			for time := max(0, now-6); time <= min(1<<30, now+6); time++ {
				want := api.ErrSkew
				if time >= now-5 && time <= now+5 && (start == 0 || time > start+5) {
					want = api.OK
				}
				begun(t, start).want(at(now, time, 1), want, "a Time behind New")
				w := service(t)
				w.restart(start)
				if start == 0 && time <= 5 {
					want = api.ErrSkew
				}
				w.want(at(now, time, 1), want, "a Time behind Restart")
			}
		}
	}
}

// P14.2, P13.2: behind a Restart nothing is known, and nothing that was accepted
// is accepted again, at 0 as at a time.
func TestRestarts(t *testing.T) {
	for _, now := range []int{0, 1, 100, 1<<30 - 40} {
		w := service(t)
		for time := max(0, now-5); time <= now+2; time++ {
			w.want(at(now, time, 1), api.OK, "ahead of a Restart")
		}
		w.restart(now)
		for later := now; later <= now+12; later++ {
			for _, a := range slices.Clone(w.seen) {
				want := api.ErrReplay
				if a.Time < later-5 {
					want = api.ErrSkew
				}
				w.want(at(later, a.Time, a.Seq), want, "what was accepted behind the Restart")
			}
			for time := max(0, now-5); time <= now+2; time++ {
				w.want(at(later, time, 1), api.ErrSkew, "what was accepted ahead of the Restart")
			}
			if later > now && len(w.there(later)) < 8 {
				w.want(at(later, later+5, 7), api.OK, "what is behind the Restart")
			}
		}
		w.restart(now + 12)
		w.restart(now + 13)
		w.want(at(now+13, now+18, 1), api.ErrSkew, "what is too near to the last Restart")
		w.want(at(now+14, now+19, 1), api.OK, "what is behind the last Restart")
	}
}

// P14.2: Restart leaves Counts as they are, and takes any number.
func TestRestartLeavesCounts(t *testing.T) {
	w := service(t)
	w.want(at(0, 0, 1), api.OK, "the first")
	w.want(at(0, 0, 1), api.ErrReplay, "the same")
	for _, now := range []int{0, 1, -1, math.MinInt, math.MaxInt, 1<<30 + 1, 100, 0} {
		w.restart(now)
		if a, r := w.acceptor.Counts(); a != 1 || r != 1 {
			t.Errorf("behind Restart(%d) Counts are %d, %d", now, a, r)
		}
	}
}

// P14.2: Counts, written out.
func TestCounts(t *testing.T) {
	w := service(t)
	wantCounts := func(accepted, refused int) {
		t.Helper()
		if a, r := w.acceptor.Counts(); a != accepted || r != refused {
			t.Errorf("Counts are %d, %d, not %d, %d", a, r, accepted, refused)
		}
	}
	wantCounts(0, 0)
	w.acceptor.Take(nil, 100)
	w.refused++
	wantCounts(0, 1)
	p := goodPlan()
	p.now = -1
	w.want(p, api.ErrArg, "now below 0")
	wantCounts(0, 2)
	for i := range 8 {
		w.want(at(100, 100, i), api.OK, "one of eight")
		wantCounts(i+1, 2)
	}
	w.want(at(100, 100, 8), api.ErrFull, "a ninth")
	wantCounts(8, 3)
	w.want(at(100, 100, 7), api.ErrReplay, "the eighth")
	wantCounts(8, 4)
}

// P14.3: of a nil Acceptor Take answers ErrArg, all else nothing.
func TestNilAcceptor(t *testing.T) {
	var a *acceptor.Acceptor
	for _, now := range []int{-1, 0, 100, 1 << 30, math.MinInt, math.MaxInt} {
		for _, b := range [][]byte{nil, {0}, []byte("junk"), goodPlan().bytes(), at(0, 0, 1).bytes()} {
			if x, err := a.Take(b, now); err != api.ErrArg || !sameAccept(x, api.Accept{}) {
				t.Errorf("Take of a nil Acceptor is %s, %v", show(x), err)
			}
			a.Restart(now)
			if accepted, refused := a.Counts(); accepted != 0 || refused != 0 {
				t.Errorf("Counts of a nil Acceptor are %d, %d", accepted, refused)
			}
		}
	}
}

// W1: an Acceptor that New didn't make is nobody, and ends.
func TestAnAcceptorOfNothing(t *testing.T) {
	var a acceptor.Acceptor
	for i := range 3 {
		if x, err := a.Take(goodPlan().bytes(), 100); err != api.ErrMatch || !sameAccept(x, api.Accept{}) {
			t.Errorf("Take of an Acceptor of nothing is %s, %v", show(x), err)
		}
		a.Restart(100)
		if accepted, refused := a.Counts(); accepted != 0 || refused != i+1 {
			t.Errorf("Counts of an Acceptor of nothing are %d, %d", accepted, refused)
		}
	}
}

// P14.3: two Acceptors of one Ring: each has what it saw, and its Counts, by
// itself; the Boxes' Counts are of both.
func TestTwoAcceptorsOfOneRing(t *testing.T) {
	v := service(t)
	w := &watch{t: t, ring: v.ring, princ: web, realms: topo().Realms, ways: ways(), keys: v.keys, ever: map[api.Authn]int{}}
	w.begin(topo(), 0)
	m := &watch{t: t, ring: v.ring, princ: mail, realms: topo().Realms, ways: ways(), keys: v.keys, ever: map[api.Authn]int{}}
	m.begin(topo(), 0)
	for i := range 8 {
		p := at(100, 100, i)
		q := p
		q.server, q.kvno, q.lock = mail, 1, keyOf(keyMail)
		v.want(p, api.OK, "the one")
		v.want(p, api.ErrReplay, "the one again")
		w.want(p, api.OK, "the other one")
		v.want(q, api.ErrMatch, "what is for another service")
		m.want(q, api.OK, "another service")
		m.want(p, api.ErrMatch, "what is for another one, at another service")
		if i == 4 {
			v.restart(100)
			v.want(at(101, 106, 100), api.OK, "behind the Restart")
			v.restart(80)
			w.want(p, api.ErrReplay, "the other one, which was not restarted")
		}
	}
	w.want(at(100, 100, 8), api.ErrFull, "a ninth of the other one")
}

// P14.3: Boxes that others use meanwhile: nothing hangs on their Counts.
func TestBoxesThatOthersUse(t *testing.T) {
	w := service(t)
	for i, h := range w.keys {
		for range i + 1 {
			b, _ := h.box.Seal(2, 1<<40, []byte("joe"))
			h.box.Open(2, b)
			h.box.Open(3, b)
			h.sealed, h.opened, h.refused = h.sealed+1, h.opened+1, h.refused+1
		}
		w.want(at(100, 100, i), api.OK, "a request")
	}
}

// Ways: many at a time: of the same eight requests each is accepted once, and
// Counts have all; asked meanwhile, they never go back.
func TestManyAtATime(t *testing.T) {
	const workers, rounds = 8, 40
	w := service(t)
	for round := range 3 {
		now := 100 + 20*round
		var asked [8][]byte
		for i := range asked {
			asked[i] = at(now, now, i).bytes()
		}
		junk, other := []byte("junk"), goodPlan()
		other.server = mail
		strange := other.bytes()
		var accepted [workers][8]int
		start, done := make(chan struct{}), make(chan struct{})
		var all, asking sync.WaitGroup
		for worker := range workers {
			all.Go(func() {
				<-start
				for i := range 8 * rounds {
					n := (i + worker) % 8
					x, err := w.acceptor.Take(asked[n], now)
					switch {
					case err == api.OK && x.Seq == n && x.Time == now && x.Client == sue && x.Server == web:
						accepted[worker][n]++
					case err != api.ErrReplay:
						t.Errorf("Take of many at a time is %s, %v", show(x), err)
					}
					_, e := w.acceptor.Take(junk, now)
					if _, f := w.acceptor.Take(strange, now); e != api.ErrForm || f != api.ErrMatch {
						t.Errorf("Take of junk is %v, of another's ticket %v", e, f)
					}
				}
			})
		}
		for range 2 {
			asking.Go(func() {
				last, lost := 0, 0
				for {
					a, r := w.acceptor.Counts()
					if a < last || r < lost || a > 8*(round+1) || a+r > 3*workers*8*rounds*(round+1) {
						t.Errorf("behind %d, %d Counts are %d, %d", last, lost, a, r)
					}
					last, lost = a, r
					select {
					case <-done:
						return
					default:
					}
				}
			})
		}
		close(start)
		all.Wait()
		close(done)
		asking.Wait()
		for n := range 8 {
			count := 0
			for worker := range workers {
				count += accepted[worker][n]
			}
			if count != 1 {
				t.Errorf("of many at a time request %d was accepted %d times", n, count)
			}
		}
		if a, r := w.acceptor.Counts(); a != 8*(round+1) || a+r != 3*workers*8*rounds*(round+1) {
			t.Errorf("behind many at a time Counts are %d, %d", a, r)
		}
	}
}

// The same one from many at the same moment, again and again: one of them is
// accepted.
func TestTheSameAtATime(t *testing.T) {
	const workers, rounds = 8, 1500
	w := service(t)
	for round := range rounds {
		now := 6 * round
		b := at(now, now, 1).bytes()
		var errs [workers]api.Errno
		start := make(chan struct{})
		var all sync.WaitGroup
		for worker := range workers {
			all.Go(func() {
				<-start
				_, errs[worker] = w.acceptor.Take(b, now)
			})
		}
		close(start)
		all.Wait()
		slices.Sort(errs[:])
		if errs[0] != api.OK || errs[1] != api.ErrReplay || errs[workers-1] != api.ErrReplay {
			t.Fatalf("at %d Take of the same is %v", now, errs)
		}
	}
	if a, r := w.acceptor.Counts(); a != rounds || r != rounds*(workers-1) {
		t.Errorf("Counts are %d, %d", a, r)
	}
}

// Restarts and requests at a time: whatever comes first, none is accepted twice.
func TestRestartsAtATime(t *testing.T) {
	w := service(t)
	b := at(100, 104, 1).bytes()
	var accepted [4]int
	var all sync.WaitGroup
	for worker := range accepted {
		all.Go(func() {
			for range 200 {
				if _, err := w.acceptor.Take(b, 100); err == api.OK {
					accepted[worker]++
				}
				w.acceptor.Restart(100)
			}
		})
	}
	all.Wait()
	count := accepted[0] + accepted[1] + accepted[2] + accepted[3]
	if a, r := w.acceptor.Counts(); a != count || a+r != 800 || count != 1 {
		t.Errorf("Counts are %d, %d, and %d were accepted", a, r, count)
	}
}

// P14.1, P14.2: all scripts of five steps: requests that are accepted, the same
// ones again, refused ones, time, Restarts; each against the model.
func TestShortScripts(t *testing.T) {
	now := 0
	steps := []func(w *watch){
		func(w *watch) { w.take(at(now, now, 1)) },
		func(w *watch) { w.take(at(now, now+5, 1)) },
		func(w *watch) { w.take(at(now, max(0, now-5), 1)) },
		func(w *watch) {
			p := at(now, now, 1)
			p.part.Transited = "A.EDU"
			w.take(p)
		},
		func(w *watch) { now++ },
		func(w *watch) { now += 5 },
		func(w *watch) { w.restart(now) },
	}
	scripts := 1
	for range 5 {
		scripts *= len(steps)
	}
	for _, start := range []int{0, 7} {
		for script := range scripts {
			w := watched(t, web, topo(), ways(), start, web, web)
			now = start
			for range 5 {
				steps[script%len(steps)](w)
				script /= len(steps)
			}
		}
	}
}

// randomPlan is a request at that time, with up to two faults, or one of those that
// came before.
func randomPlan(rnd *rand.Rand, now int, faults []fault, old []plan) plan {
	if len(old) > 0 && rnd.Intn(3) == 0 {
		p := old[rnd.Intn(len(old))]
		p.now = now
		return p
	}
	p := at(now, min(max(now+rnd.Intn(15)-7, 0), 1<<30), rnd.Intn(4))
	p.part.Start, p.part.End = min(max(now+rnd.Intn(30)-23, 0), 1<<30), min(max(now+rnd.Intn(30)-4, 0), 1<<30)
	keys := []int{keyWeb1, keyWeb2, keyWeb3}
	p.kvno = rnd.Intn(3) + 1
	p.lock = keyOf(keys[p.kvno-1])
	p.part.Session = keyOf(rnd.Intn(3))
	p.holder = p.part.Session
	if clients := []api.Princ{joe, bob, princ("COM", "ann"), princ("/HP/LAB", "krbtgt/EDU"), princ("ORG", "sue")}; rnd.Intn(2) == 0 {
		p.client(clients[rnd.Intn(len(clients))])
	}
	told := []string{"", "EDU", "COM,EDU", ",", "COM", "A.EDU", "EDU,A.", "A,B,C,D,E,F,G,", "/HP,/LAB,", "MIT.", "A,B,C,D,E,F,G,H,I"}
	p.part.Transited = told[min(rnd.Intn(len(told)), rnd.Intn(len(told)))]
	for range max(0, rnd.Intn(6)-3) {
		if f := faults[rnd.Intn(len(faults))]; f.field != "now" || rnd.Intn(4) == 0 {
			f.do(&p)
		}
	}
	return p
}

// P14.1 to P14.3, P0.3, W2: rows of calls, on two Acceptors in turn, against the
// model.
func TestRandomScripts(t *testing.T) {
	rnd := rand.New(rand.NewSource(14))
	l := slices.Concat(requestFaults(), ticketFaults(), authnFaults(), wayFaults())
	accepted, seen := 0, map[api.Errno]int{}
	for range 60 {
		now := []int{0, 0, 3, 100, 1<<30 - 30}[rnd.Intn(5)]
		watches := []*watch{begun(t, now), begun(t, []int{0, now}[rnd.Intn(2)])}
		var old []plan
		for range 150 {
			w := watches[rnd.Intn(2)]
			if rnd.Intn(8) == 0 {
				now = min(now+rnd.Intn(4), 1<<30)
			}
			if rnd.Intn(40) == 0 {
				w.restart(now)
			}
			p := randomPlan(rnd, now, l, old)
			_, err := w.take(p)
			seen[err]++
			if p.raw == nil {
				old = append(old, p)
			}
		}
		accepted += watches[0].accepted + watches[1].accepted
	}
	for _, err := range []api.Errno{api.OK, api.ErrArg, api.ErrForm, api.ErrSeal, api.ErrKey, api.ErrExpired, api.ErrSkew, api.ErrMatch, api.ErrPolicy, api.ErrReplay, api.ErrFull} {
		if seen[err] < 20 {
			t.Errorf("only %d were %v", seen[err], err)
		}
	}
	if accepted != seen[api.OK] {
		t.Errorf("%d were accepted, not %d", accepted, seen[api.OK])
	}
}

// W1: New and Take of texts and bytes of any length end.
func TestAnyBytes(t *testing.T) {
	w := service(t)
	rnd := rand.New(rand.NewSource(41))
	good := goodPlan().bytes()
	for range 3000 {
		b := slices.Clone(good)
		for range rnd.Intn(4) + 1 {
			b[rnd.Intn(len(b))] = byte(rnd.Intn(256))
		}
		if slices.Equal(b, good) {
			continue
		}
		if _, err := w.acceptor.Take(b, 100); err == api.OK {
			t.Fatalf("%x was accepted", b)
		}
		w.refused++
	}
	for _, n := range []int{1, 100, 2000, 2001, 65536, 1 << 22} {
		b := make([]byte, n)
		rnd.Read(b)
		if _, err := w.acceptor.Take(b, 100); err != api.ErrForm {
			t.Errorf("Take of %d bytes is %v", n, err)
		}
		w.refused++
	}
	if a, r := w.acceptor.Counts(); a != 0 || r != w.refused {
		t.Errorf("Counts are %d, %d, not 0, %d", a, r, w.refused)
	}
	if a, err := acceptor.New(web, topo(), new(ring.Ring), 0); a == nil || err != api.OK {
		t.Errorf("New of an empty Ring is %v", err)
	}
}

package replay_test

import (
	"math"
	"math/big"
	"math/rand"
	"strconv"
	"strings"
	"sync"
	"testing"
	"unsafe"

	"legate/api"
	"legate/replay"
)

const last = 1 << 30 // MaxTime

// times are some at which a Replay begins or is asked.
func times() []int {
	return []int{0, 1, 2, 4, 5, 6, 7, 10, 11, 12, 100, 1000, 1<<16 - 1, 1 << 16, last - 12, last - 11, last - 10, last - 6, last - 5, last - 4, last - 1, last}
}

func wantSee(t *testing.T, r *replay.Replay, a api.Authn, now int, want api.Errno) {
	t.Helper()
	if err := r.See(a, now); err != want {
		t.Errorf("See(%s, %d) is %v, not %v", show(a), now, err, want)
	}
}

func wantLen(t *testing.T, r *replay.Replay, want int) {
	t.Helper()
	if n := r.Len(); n != want {
		t.Errorf("Len is %d, not %d", n, want)
	}
}

func TestTheExample(t *testing.T) {
	r := replay.New(0)
	wantLen(t, r, 0)
	wantSee(t, r, at(0, 1), 0, api.OK)
	wantLen(t, r, 1)
	for range 3 {
		wantSee(t, r, at(0, 1), 0, api.ErrReplay)
		wantLen(t, r, 1)
	}
}

// P13.1: Skew is 5, MaxReplay is 8, as the tests take them.
func TestLimits(t *testing.T) {
	if api.Skew != 5 || api.MaxReplay != 8 || api.MaxTime != last {
		t.Error("the limits are others than the tests take")
	}
}

// P13.1: written-out edges of Skew, of a Replay that began at 0.
func TestWrittenEdges(t *testing.T) {
	for _, x := range []struct {
		time, now int
		want      api.Errno
	}{
		{0, 0, api.OK}, {1, 0, api.OK}, {4, 0, api.OK}, {5, 0, api.OK}, {6, 0, api.ErrSkew}, {7, 0, api.ErrSkew}, {last, 0, api.ErrSkew},
		{0, 4, api.OK}, {0, 5, api.OK}, {0, 6, api.ErrSkew}, {1, 6, api.OK}, {6, 1, api.OK}, {7, 1, api.ErrSkew}, {1, 7, api.ErrSkew},
		{94, 100, api.ErrSkew}, {95, 100, api.OK}, {100, 100, api.OK}, {105, 100, api.OK}, {106, 100, api.ErrSkew}, {0, 100, api.ErrSkew},
		{last, last, api.OK}, {last - 5, last, api.OK}, {last - 6, last, api.ErrSkew}, {0, last, api.ErrSkew},
		{last, last - 5, api.OK}, {last, last - 6, api.ErrSkew}, {last - 1, last - 6, api.OK},
	} {
		r := replay.New(0)
		wantSee(t, r, at(x.time, 1), x.now, x.want)
		count := 0
		if x.want == api.OK {
			count = 1
		}
		wantLen(t, r, count)
	}
}

// P13.1: each Time around now, at each time, of a Replay that began at 0: of a
// fresh one each, and of one for all the times.
func TestEdgesOfSkew(t *testing.T) {
	all := watched(t, 0)
	for i, now := range times() {
		for time := max(0, now-9); time <= min(last, now+9); time++ {
			want := api.ErrSkew
			if time >= now-5 && time <= now+5 {
				want = api.OK
			}
			w := watched(t, 0)
			if err := w.see(at(time, 1), now); err != want {
				t.Errorf("of %d at %d See is %v, not %v", time, now, err, want)
			}
			all.what = "all times"
			all.see(at(time, i), now)
		}
	}
}

// P13.1: each Time around Skew behind the beginning, at each time from there on;
// of one that New began, of ones that began again, once and twice.
func TestEdgesOfBeginning(t *testing.T) {
	for _, start := range times() {
		begin := map[string]func() *watch{
			"New":          func() *watch { return watched(t, start) },
			"Restart":      func() *watch { w := watched(t, 0); w.restart(start); return w },
			"Restart late": func() *watch { w := watched(t, start/2); w.restart(start); return w },
			"Restarts":     func() *watch { w := watched(t, start); w.restart(start); w.restart(start); return w },
		}
		for name, made := range begin {
			for now := start; now <= min(last, start+14); now++ {
				for time := max(0, now-7); time <= min(last, now+7); time++ {
					want := api.ErrSkew
					if time >= now-5 && time <= now+5 && (time > start+5 || start == 0 && name == "New") {
						want = api.OK
					}
					if err := made().see(at(time, 1), now); err != want {
						t.Fatalf("begun by %s at %d, of %d at %d See is %v, not %v", name, start, time, now, err, want)
					}
				}
			}
		}
	}
}

// P13.1: what is at Skew behind the beginning is skewed, one more is not, and is
// then seen once, as long as it is near.
func TestBehindTheBeginning(t *testing.T) {
	for _, start := range []int{1, 2, 5, 6, 50, last - 11} {
		w := watched(t, start)
		for _, time := range []int{start - 1, start, start + 4, start + 5} {
			for now := start; now <= start+11; now++ {
				wantSee(t, w.replay, at(time, 1), now, api.ErrSkew)
				wantLen(t, w.replay, 0)
			}
		}
		w = watched(t, start)
		w.want(at(start+6, 1), start, api.ErrSkew, 0)
		w.want(at(start+6, 1), start+1, api.OK, 1)
		w.want(at(start+5, 1), start+1, api.ErrSkew, 1)
		w.want(at(start+6, 1), start+1, api.ErrReplay, 1)
		w.want(at(start+6, 2), start+11, api.OK, 2)
		w.want(at(start+6, 1), start+11, api.ErrReplay, 2)
	}
}

// P13.1: New at 0 began at no time, Restart at 0 began at 0.
func TestNewAndRestartAtNothing(t *testing.T) {
	for time := range 6 {
		w := watched(t, 0)
		w.want(at(time, 1), 0, api.OK, 1)
		w.restart(0)
		w.want(at(time, 1), 0, api.ErrSkew, 0)
		w.want(at(time, 2), 0, api.ErrSkew, 0)
		w.want(at(time, 1), min(5, time), api.ErrSkew, 0)
		w.want(at(6, time), 1, api.OK, 1)
		w.want(at(6, time), 1, api.ErrReplay, 1)
		w.restart(1)
		w.want(at(6, time), 1, api.ErrSkew, 0)
		w.want(at(7, time), 2, api.OK, 1)
	}
}

// P13.1: the same one again, at the same time and at each later one: a replay as
// long as it is near, skewed from then on.
func TestTheSameAgain(t *testing.T) {
	for _, start := range []int{0, 3, 50} {
		for first := start; first <= start+12; first++ {
			for time := max(0, first-5); time <= first+5; time++ {
				w := watched(t, start)
				if w.see(at(time, 7), first) != api.OK {
					continue
				}
				for now := first; now <= first+20; now++ {
					want := api.ErrReplay
					if now > time+5 {
						want = api.ErrSkew
					}
					for range 2 {
						// Nothing that is skewed sends it away.
						w.want(at(time, 7), now, want, 1)
					}
				}
				w.want(at(first+20, 7), first+20, api.OK, 1)
			}
		}
	}
}

// alike are groups of authenticators: those of one group differ in one thing.
func alike() map[string][]api.Authn {
	long := strings.Repeat("A", 1<<16)
	of := func(l ...string) []api.Authn {
		var all []api.Authn
		for i := 0; i < len(l); i += 2 {
			all = append(all, api.Authn{Client: princ(l[i], l[i+1]), Time: 20, Seq: 1})
		}
		return all
	}
	return map[string][]api.Authn{
		"realm":         of("A.EDU", "joe", "B.EDU", "joe", "EDU", "joe", "A.ED", "joe", "A.EDUU", "joe", "/A/EDU", "joe"),
		"name":          of("A.EDU", "joe", "A.EDU", "jo", "A.EDU", "joee", "A.EDU", "koe", "A.EDU", "jof", "A.EDU", "krbtgt/A.EDU"),
		"time":          {at(15, 1), at(16, 1), at(18, 1), at(19, 1), at(20, 1), at(21, 1), at(24, 1), at(25, 1)},
		"seq":           {at(20, 0), at(20, 1), at(20, 2), at(20, -1), at(20, 1<<30), at(20, math.MaxInt), at(20, math.MinInt), at(20, 1<<32)},
		"seq by words":  {at(20, 1), at(20, 1<<8+1), at(20, 1<<16+1), at(20, 1<<31+1), at(20, 1<<32+1), at(20, 1<<62+1)},
		"time and seq":  {at(20, 21), at(21, 20), at(20, 20), at(21, 21)},
		"case":          of("A.EDU", "joe", "a.edu", "joe", "A.EDU", "JOE", "A.Edu", "joe"),
		"end of a text": of("A", "BC", "AB", "C", "ABC", "", "", "ABC"),
		"turned":        of("A", "B", "B", "A"),
		"signs":         of("A", "/B", "A/", "B", "A", "\x00B", "A\x00", "B", "A@", "B", "A", "@B"),
		"empty texts":   of("", "", "A", "", "", "A", "\x00", "", "", "\x00", " ", "", "", " "),
		"no characters": of("A", "\xff", "A", "\xfe", "A", "\ufffd", "\xff", "A", "A", "é", "A", "e\u0301"),
		"long texts":    of(long, "b", long+"A", "b", long[1:], "b", long+"B", "b", "b", long, "b", long+"B", long, long),
	}
}

// P13.1: authenticators that differ in one thing are others, and each is seen
// once.
func TestAuthenticatorsThatAreAlike(t *testing.T) {
	for name, l := range alike() {
		t.Run(name, func(t *testing.T) {
			w := watched(t, 0)
			for i, a := range l {
				w.want(a, 20, api.OK, i+1)
				w.want(a, 20, api.ErrReplay, i+1)
			}
			// Those whose texts are the same, but not in the same place, are the same.
			for _, a := range l {
				a.Client = princ(strings.Clone(a.Client.Realm), strings.Clone(a.Client.Name))
				w.want(a, 20, api.ErrReplay, len(l))
			}
			for _, a := range l {
				for _, b := range l {
					w := watched(t, 0)
					w.want(a, 20, api.OK, 1)
					if a == b {
						w.want(b, 20, api.ErrReplay, 1)
						continue
					}
					w.want(b, 20, api.OK, 2)
				}
			}
		})
	}
}

// P13.1: each byte, at each place, makes another one.
func TestAuthenticatorsByEachByte(t *testing.T) {
	for i := range 4 {
		for b := range 256 {
			l := []byte("ABcd")
			l[i] = byte(b)
			r := replay.New(0)
			wantSee(t, r, api.Authn{Client: princ("AB", "cd"), Time: 3}, 3, api.OK)
			want := api.OK
			if string(l) == "ABcd" {
				want = api.ErrReplay
			}
			wantSee(t, r, api.Authn{Client: princ(string(l[:2]), string(l[2:])), Time: 3}, 3, want)
		}
	}
}

// P13.1: those go whose Time is more than Skew below now, each at its time,
// whatever the See is that sends it away; of what is skewed none goes.
func TestWhichAreGone(t *testing.T) {
	w := watched(t, 0)
	for i := range 8 {
		w.want(at(10+i, 0), 12, api.OK, i+1)
	}
	w.want(at(30, 0), 15, api.ErrSkew, 8)
	w.want(at(10, 0), 15, api.ErrReplay, 8)
	w.want(at(30, 0), 16, api.ErrSkew, 8)
	w.want(at(17, 0), 16, api.ErrReplay, 7)
	w.want(at(17, 0), 16, api.ErrReplay, 7)
	w.want(at(12, 0), 17, api.ErrReplay, 6)
	w.want(at(11, 0), 17, api.ErrSkew, 6)
	w.want(at(20, 0), 18, api.OK, 6)
	w.want(at(13, 1), 18, api.OK, 7)
	w.want(at(13, 0), 18, api.ErrReplay, 7)
	w.want(at(13, 0), 19, api.ErrSkew, 7)
	w.want(at(20, 0), 20, api.ErrReplay, 4)
	w.want(at(0, 0), 22, api.ErrSkew, 4)
	w.want(at(20, 0), 25, api.ErrReplay, 1)
	w.want(at(20, 0), 26, api.ErrSkew, 1)
	w.want(at(31, 0), 26, api.OK, 1)
	w.want(at(last, 0), last, api.OK, 1)
}

// P13.1: of those that went none is among those that are there, in whatever order
// they came and whichever went.
func TestWhichAreStillThere(t *testing.T) {
	for old := range 1 << 8 {
		w, left := watched(t, 0), 0
		for i := range 8 {
			time := 20
			if old>>i&1 == 1 {
				time = 19 - i%3
			}
			w.want(at(time, i), 20, api.OK, i+1)
			if time == 20 {
				left++
			}
		}
		for i := range 8 {
			if old>>i&1 == 0 {
				w.want(at(20, i), 25, api.ErrReplay, left)
			} else {
				w.see(at(19-i%3, i), 25)
			}
		}
		for i := left; i < 8; i++ {
			w.want(at(25, 100+i), 25, api.OK, i+1)
		}
		w.want(at(25, 200), 25, api.ErrFull, 8)
		w.again(25)
		if left == 0 {
			w.want(at(26, 200), 26, api.ErrFull, 8)
			continue
		}
		w.want(at(26, 200), 26, api.OK, 9-left)
	}
}

// full is a watch of eight, of that Time each.
func full(t *testing.T, time int) *watch {
	t.Helper()
	w := watched(t, 0)
	for i := range 8 {
		w.want(at(time, i), time, api.OK, i+1)
	}
	return w
}

// P13.1: MaxReplay of them and one more: it is full till they have grown old, and
// what is refused then was not seen.
func TestFull(t *testing.T) {
	w := full(t, 20)
	for now := 20; now <= 25; now++ {
		for seq := 8; seq < 30; seq++ {
			w.want(at(25, seq), now, api.ErrFull, 8)
			w.want(at(25, seq), now, api.ErrFull, 8)
		}
		for seq := range 8 {
			w.want(at(20, seq), now, api.ErrReplay, 8)
		}
	}
	for seq := 8; seq < 16; seq++ {
		w.want(at(25, seq), 26, api.OK, seq-7)
		w.want(at(25, seq), 26, api.ErrReplay, seq-7)
	}
	w.want(at(25, 16), 26, api.ErrFull, 8)
	w.again(26)
}

// P13.1: full, and they grow old one behind the other: there is room for just one
// each time.
func TestFullAndOneGoes(t *testing.T) {
	w := watched(t, 0)
	for i := range 8 {
		w.want(at(20+i, 0), 23, api.OK, i+1)
	}
	w.want(at(25, 1), 25, api.ErrFull, 8)
	for i := range 8 {
		now := 26 + i
		w.want(at(now+5, 2), now, api.OK, 8)
		w.want(at(now+5, 3), now, api.ErrFull, 8)
		w.want(at(now+5, 2), now, api.ErrReplay, 8)
		w.again(now)
	}
}

// P13.1: where two errors would hold: skewed stands ahead of a replay and of full,
// a replay ahead of full.
func TestOrderOfErrors(t *testing.T) {
	w := full(t, 20)
	w.want(at(20, 3), 25, api.ErrReplay, 8) // a replay, and full
	w.want(at(31, 9), 25, api.ErrSkew, 8)   // skewed, and full
	w.want(at(19, 9), 25, api.ErrSkew, 8)   // skewed, and full
	w.want(at(20, 3), 26, api.ErrSkew, 8)   // skewed, a replay, and full
	w.want(at(20, 9), 26, api.ErrSkew, 8)   // skewed, and full
	w.want(at(26, 9), 26, api.OK, 1)        // they have gone only now
	w.want(at(26, 9), 32, api.ErrSkew, 1)   // skewed, and a replay
	w.want(at(26, 9), 31, api.ErrReplay, 1) // asked as if it had not been told
	w.want(at(1, 9), last, api.ErrSkew, 1)  // skewed alone
	w.want(at(last, 9), last, api.OK, 1)    // it is there
	w.want(at(last, 9), last, api.ErrReplay, 1)
	w.want(at(last-6, 9), last, api.ErrSkew, 1)
	w.restart(last - 6)
	w.want(at(last-1, 9), last-1, api.ErrSkew, 0) // too near to the beginning alone
	w.want(at(last, 9), last-6, api.ErrSkew, 0)   // too far alone
}

// P13.1: one that began at some time is full as others are, and skewed stands
// ahead of that.
func TestFullThatBeganAtSomeTime(t *testing.T) {
	w := watched(t, 10)
	for i := range 8 {
		w.want(at(16, i), 12, api.OK, i+1)
	}
	w.want(at(16, 8), 12, api.ErrFull, 8)
	w.want(at(15, 8), 12, api.ErrSkew, 8)
	w.want(at(15, 8), 20, api.ErrSkew, 8)
	w.want(at(16, 0), 21, api.ErrReplay, 8)
	w.want(at(17, 0), 22, api.OK, 1)
}

// P13.2: whatever was seen ahead of a Restart, at its time or before it, is not
// seen behind it, at any time; and what is new is.
func TestRestart(t *testing.T) {
	for _, start := range []int{0, 3} {
		for again := start; again <= start+14; again++ {
			for first := start; first <= again; first++ {
				for time := max(0, first-5); time <= first+5; time++ {
					w := watched(t, start)
					w.see(at(time, 1), first)
					w.restart(again)
					for now := again; now <= again+12; now++ {
						if w.ever[at(time, 1)] > 0 {
							w.want(at(time, 1), now, api.ErrSkew, 0)
						}
					}
					w.want(at(again+6, 1), again+11, api.OK, 1)
					w.want(at(again+6, 1), again+11, api.ErrReplay, 1)
				}
			}
		}
	}
}

// P13.1: Restart of a full one, of an empty one, at one time again and again.
func TestRestartForgetsAll(t *testing.T) {
	w := full(t, 20)
	w.restart(20)
	wantLen(t, w.replay, 0)
	w.again(20)
	for i := range 8 {
		w.want(at(26, 50+i), 21, api.OK, i+1)
	}
	w.want(at(26, 60), 21, api.ErrFull, 8)
	for range 3 {
		w.restart(21)
		wantLen(t, w.replay, 0)
	}
	w.again(21)
	w.want(at(26, 60), 22, api.ErrSkew, 0)
	w.want(at(27, 60), 22, api.OK, 1)
	w.restart(last)
	w.again(last)
	for time := last - 5; time <= last; time++ {
		w.want(at(time, 1), last, api.ErrSkew, 0)
	}
}

// P13.2: all scripts of five calls of See and Restart, at times that go on by so
// much each, of Replays that began at 0 and at some time.
func TestAllShortScripts(t *testing.T) {
	const kinds = 7
	for script := range kinds * kinds * kinds * kinds * kinds {
		for _, start := range []int{0, 2} {
			for _, step := range []int{0, 1, 3} {
				w, now := watched(t, start), start
				for left := script; left > 0; left /= kinds {
					switch n := left % kinds; n {
					case 0:
						w.restart(now)
					case 1:
						w.see(at(start+6, 1), now)
					case 2:
						w.see(at(start+6, 2), now)
					default:
						w.see(at(now+3*n-12, 1), now)
					}
					now += step
				}
				w.again(now)
			}
		}
	}
}

// P13.1, P13.2, W2: scripts of many calls, on two Replays in turn, against the
// model: what is done with the one changes nothing in the other.
func TestRandomScripts(t *testing.T) {
	rnd := rand.New(rand.NewSource(130))
	count := map[api.Errno]int{}
	for round := range 300 {
		now, most := rnd.Intn(2)*rnd.Intn(20), 1+rnd.Intn(4)
		if round%10 == 9 {
			now = last - 200
		}
		l := []*watch{watched(t, now), watched(t, 0)}
		seqs, loud := 1+rnd.Intn(6), 2+rnd.Intn(200)
		for range 150 {
			if rnd.Intn(3) == 0 {
				now = min(last, now+rnd.Intn(most))
			}
			w := l[rnd.Intn(2)]
			if rnd.Intn(loud) == 0 {
				w.restart(now)
			}
			a := at(max(0, now+rnd.Intn(15)-7), rnd.Intn(seqs))
			if rnd.Intn(4) == 0 {
				a.Client.Name = "ann"
			}
			count[w.see(a, now)]++
			l[0].wantLen()
			l[1].wantLen()
		}
		l[0].again(now)
		l[1].again(now)
	}
	for _, err := range []api.Errno{api.OK, api.ErrSkew, api.ErrReplay, api.ErrFull} {
		if count[err] < 300 {
			t.Errorf("%v came only %d times", err, count[err])
		}
	}
}

// P13.1: many calls at one time, and many as time goes on: no more than eight are
// there, and there is room again each time.
func TestManyCalls(t *testing.T) {
	r := replay.New(0)
	for i := range 8 {
		wantSee(t, r, at(50, i), 50, api.OK)
	}
	for i := 8; i < 20000; i++ {
		wantSee(t, r, at(50, i), 50, api.ErrFull)
		wantSee(t, r, at(50, i%8), 50, api.ErrReplay)
		wantLen(t, r, 8)
	}
	for now := 56; now < 20000; now++ {
		wantSee(t, r, at(now, 1), now, api.OK)
		wantSee(t, r, at(now, 1), now, api.ErrReplay)
		wantLen(t, r, min(now-55, 6))
	}
}

// P13.1, W2: many at a time: Replays that are asked by a goroutine each, and a nil
// one by all of them, tell what they tell one behind the other.
func TestManyAtATime(t *testing.T) {
	var all sync.WaitGroup
	var none *replay.Replay
	script := func(seed int64) []api.Errno {
		rnd := rand.New(rand.NewSource(seed))
		r, now, got := replay.New(int(seed%3)), int(seed%3), []api.Errno{}
		for range 500 {
			now += rnd.Intn(2)
			got = append(got, r.See(at(now+rnd.Intn(13)-6, rnd.Intn(4)), now), api.Errno(r.Len()), none.See(at(now, 1), now), api.Errno(none.Len()))
			if rnd.Intn(50) == 0 {
				r.Restart(now)
				none.Restart(now)
			}
		}
		return got
	}
	told := make([][]api.Errno, 24)
	for i := range told {
		all.Go(func() { told[i] = script(int64(i)) })
	}
	all.Wait()
	for i := range told {
		for j, want := range script(int64(i)) {
			if told[i][j] != want {
				t.Fatalf("Replay %d tells %v at %d, not %v", i, told[i][j], j, want)
			}
		}
	}
}

// P13.2: of a nil Replay See answers ErrFull, whatever would hold of others, all
// else nothing.
func TestNilReplay(t *testing.T) {
	var r *replay.Replay
	for range 2 {
		for _, now := range numbers() {
			for _, time := range numbers() {
				wantSee(t, r, at(time, 1), now, api.ErrFull)
				wantSee(t, r, api.Authn{Time: time}, now, api.ErrFull)
				wantLen(t, r, 0)
			}
			r.Restart(now)
		}
	}
	if r != nil {
		t.Error("a nil Replay became one")
	}
}

// numbers are some, the least and the greatest among them.
func numbers() []int {
	return []int{
		math.MinInt, math.MinInt + 1, math.MinInt + 5, math.MinInt + 6, -1 << 62, -1 << 32, -1 << 31, -last, -7, -6, -5, -1, 0, 1, 4, 5, 6, 7, 11,
		last - 1, last, last + 1, last + 5, last + 6, 1 << 31, 1 << 32, 1<<32 + 1, 1 << 62, math.MaxInt - 6, math.MaxInt - 5, math.MaxInt - 1, math.MaxInt,
	}
}

// P13.1, W1, W10: at all numbers each call ends, and no sum wraps; also of times
// of which nothing is asked.
func TestAllNumbers(t *testing.T) {
	apart := func(a, b int) int {
		return new(big.Int).Sub(big.NewInt(int64(a)), big.NewInt(int64(b))).Cmp(big.NewInt(5))
	}
	for _, start := range numbers() {
		for _, now := range numbers() {
			for _, time := range numbers() {
				want := api.OK
				if apart(time, now) > 0 || apart(now, time) > 0 || start != 0 && apart(time, start) <= 0 {
					want = api.ErrSkew
				}
				r := replay.New(start)
				wantSee(t, r, at(time, now), now, want)
				r.Restart(start)
				wantLen(t, r, 0)
				if start == 0 && apart(time, 0) <= 0 {
					want = api.ErrSkew
				}
				wantSee(t, r, at(time, now), now, want)
			}
		}
	}
}

// W1: times that go back, of which nothing is asked, lead to no panic, and to no
// more than MaxReplay.
func TestTimesThatGoBack(t *testing.T) {
	rnd := rand.New(rand.NewSource(131))
	r := replay.New(0)
	for i := range 20000 {
		now := rnd.Intn(40)
		if rnd.Intn(5) == 0 {
			now = numbers()[rnd.Intn(len(numbers()))]
		}
		r.See(at(now+rnd.Intn(12)-6, i%9), now)
		if n := r.Len(); n < 0 || n > 8 {
			t.Fatalf("there are %d", n)
		}
		if rnd.Intn(100) == 0 {
			r.Restart(now)
		}
	}
}

// W1, W8: a Replay that New didn't make is one that began at no time, and one that
// was copied goes on with what it has.
func TestOtherReplays(t *testing.T) {
	var r replay.Replay
	wantLen(t, &r, 0)
	wantSee(t, &r, at(0, 1), 0, api.OK)
	wantSee(t, &r, at(5, 1), 0, api.OK)
	s := r
	wantLen(t, &s, 2)
	wantSee(t, &s, at(5, 1), 6, api.ErrReplay)
	wantLen(t, &s, 1)
	wantSee(t, &s, at(6, 1), 6, api.OK)
	s.Restart(6)
	v := s
	wantSee(t, &v, at(11, 1), 7, api.ErrSkew)
	wantSee(t, &v, at(12, 1), 7, api.OK)
}

// turning is a text of bytes that can be turned.
func turning(s string) (string, []byte) {
	b := []byte(s)
	return unsafe.String(unsafe.SliceData(b), len(b)), b
}

// P13.1, W6: what is handed in is neither changed nor kept: texts that are turned
// behind the call change nothing in what was seen; of each answer of See.
func TestNothingHandedInIsKept(t *testing.T) {
	for _, there := range []int{0, 1, 7, 8} {
		for _, time := range []int{14, 15, 20, 25, 26} {
			w := watched(t, 0)
			for i := range there {
				w.want(at(20, i), 20, api.OK, i+1)
			}
			for _, seq := range []int{0, 9} {
				realm, b := turning(joe.Realm)
				name, c := turning(joe.Name)
				given := api.Authn{Client: princ(realm, name), Time: time, Seq: seq}
				want := w.modelSee(at(time, seq), 20)
				wantSee(t, w.replay, given, 20, want)
				if given != at(time, seq) || string(b) != joe.Realm || string(c) != joe.Name {
					t.Fatalf("what was handed in became %s", show(given))
				}
				copy(b, "Z.ORG")
				copy(c, "ann")
				w.wantLen()
				// What it became was not seen, what it was is.
				if w.modelSee(at(time, seq), 20) == api.ErrReplay {
					wantSee(t, w.replay, at(time, seq), 20, api.ErrReplay)
				}
				if len(w.seen) < 8 && want == api.OK {
					other := api.Authn{Client: princ("Z.ORG", "ann"), Time: time, Seq: seq}
					w.want(other, 20, api.OK, len(w.seen)+1)
				}
			}
		}
	}
}

// P13.1: two Replays have nothing in common.
func TestTwoReplays(t *testing.T) {
	v, w := full(t, 20), watched(t, 0)
	for i := range 8 {
		w.want(at(20, i), 20, api.OK, i+1)
		v.wantLen()
	}
	v.want(at(26, 1), 26, api.OK, 1)
	w.wantLen()
	w.again(25)
	v.restart(30)
	w.want(at(25, 1), 25, api.ErrFull, 8)
	w.want(at(30, 1), 30, api.OK, 1)
	v.want(at(36, 1), 31, api.OK, 1)
	if s := strconv.Itoa(w.replay.Len()) + strconv.Itoa(v.replay.Len()); s != "11" {
		t.Errorf("Len of both is %s", s)
	}
}

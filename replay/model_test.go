package replay_test

import (
	"strconv"
	"testing"

	"legate/api"
	"legate/replay"
)

func princ(realm, name string) api.Princ { return api.Princ{Realm: realm, Name: name} }

var joe = princ("A.EDU", "joe")

// at is an authenticator of joe, with that Time and Seq.
func at(time, seq int) api.Authn { return api.Authn{Client: joe, Time: time, Seq: seq} }

// show is an authenticator, short enough to be read.
func show(a api.Authn) string {
	s := strconv.QuoteToASCII(a.Client.Realm) + " " + strconv.QuoteToASCII(a.Client.Name)
	return s[:min(len(s), 60)] + " of " + strconv.Itoa(a.Time) + ", " + strconv.Itoa(a.Seq)
}

// A watch is a Replay, and what was done with it: the model. It takes nothing away:
// what is there is what was seen and hasn't grown old at any time it was asked at.
type watch struct {
	t      *testing.T
	replay *replay.Replay
	began  []int       // at what times, the last one counts
	seen   []api.Authn // since then
	asked  int         // the last time at which those that are old went
	ever   map[api.Authn]int
	what   string
}

func watched(t *testing.T, now int) *watch {
	t.Helper()
	w := &watch{t: t, replay: replay.New(now), ever: map[api.Authn]int{}, what: "New(" + strconv.Itoa(now) + ")"}
	if now != 0 {
		w.began = append(w.began, now)
	}
	w.wantLen()
	return w
}

// there are those that haven't grown old.
func (w *watch) there() []api.Authn {
	var l []api.Authn
	for _, a := range w.seen {
		if w.asked-a.Time <= 5 {
			l = append(l, a)
		}
	}
	return l
}

// modelSee is what the document says of See, of numbers whose sums don't wrap.
func (w *watch) modelSee(a api.Authn, now int) api.Errno {
	if a.Time-now > 5 || now-a.Time > 5 {
		return api.ErrSkew
	}
	if n := len(w.began); n > 0 && a.Time <= w.began[n-1]+5 {
		return api.ErrSkew
	}
	w.asked = now
	l := w.there()
	for _, b := range l {
		if a == b {
			return api.ErrReplay
		}
	}
	if len(l) >= 8 {
		return api.ErrFull
	}
	w.seen = append(w.seen, a)
	return api.OK
}

// see wants what the document says of See, that nothing is seen twice, and that so
// many are there behind it.
func (w *watch) see(a api.Authn, now int) api.Errno {
	w.t.Helper()
	want := w.modelSee(a, now)
	err := w.replay.See(a, now)
	w.what += "; " + show(a) + " at " + strconv.Itoa(now)
	if err != want {
		w.t.Fatalf("%s: See is %v, not %v", w.what, err, want)
	}
	if err == api.OK {
		w.ever[a]++
	}
	if w.ever[a] > 1 {
		w.t.Fatalf("%s: seen twice", w.what)
	}
	w.wantLen()
	return err
}

// want is see, where it is told what comes of it and how many are there then.
func (w *watch) want(a api.Authn, now int, want api.Errno, count int) {
	w.t.Helper()
	if err := w.see(a, now); err != want {
		w.t.Fatalf("%s: See is %v, not %v", w.what, err, want)
	}
	if n := w.replay.Len(); n != count {
		w.t.Fatalf("%s: Len is %d, not %d", w.what, n, count)
	}
}

func (w *watch) restart(now int) {
	w.t.Helper()
	w.replay.Restart(now)
	w.what += "; Restart at " + strconv.Itoa(now)
	w.began, w.seen = append(w.began, now), nil
	w.wantLen()
}

// wantLen wants as many as are there, however often it is asked.
func (w *watch) wantLen() {
	w.t.Helper()
	for range 2 {
		if n := w.replay.Len(); n != len(w.there()) {
			w.t.Fatalf("%s: Len is %d, not %d", w.what, n, len(w.there()))
		}
	}
}

// again wants each that was ever seen not to be seen at that time: as a replay, if
// it is there, else as one that is skewed.
func (w *watch) again(now int) {
	w.t.Helper()
	there := w.there()
	for a := range w.ever {
		want := api.ErrSkew
		for _, b := range there {
			if a == b && now-a.Time <= 5 {
				want = api.ErrReplay
			}
		}
		if err := w.see(a, now); err != want {
			w.t.Fatalf("%s: See again is %v, not %v", w.what, err, want)
		}
	}
}

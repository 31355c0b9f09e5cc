package ring

import (
	"testing"

	"legate/api"
	"legate/seal"
)

// P9.1: a principal has at most MaxKvno keys. MaxRing keys are fewer, so no
// calls of Add come there: the numbers are laid into the Ring here.
func TestAddByMaxKvno(t *testing.T) {
	joe := api.Princ{Realm: "A.EDU", Name: "joe"}
	ann := api.Princ{Realm: "A.EDU", Name: "ann"}
	for _, w := range []struct {
		last, n int
		err     api.Errno
	}{
		{1, 2, api.OK},
		{253, 254, api.OK},
		{254, 255, api.OK},
		{255, 0, api.ErrFull},
		{256, 0, api.ErrFull},
	} {
		r := &Ring{entries: []entry{{owner: joe, kvno: w.last, box: seal.New(api.Key{})}}}
		if n, err := r.Add(joe, api.Key{1}); n != w.n || err != w.err {
			t.Errorf("behind the number %d Add is %d, %v, not %d, %v", w.last, n, err, w.n, w.err)
		}
		want := 1
		if w.err == api.OK {
			want = 2
		}
		if n := r.Len(); n != want {
			t.Errorf("behind the number %d and one more Len is %d, not %d", w.last, n, want)
		}
		if n, err := r.Add(ann, api.Key{2}); n != 1 || err != api.OK {
			t.Errorf("another one's number is %d, %v, beside %d of one", n, err, w.last)
		}
		if n, err := r.Add(api.Princ{}, api.Key{2}); n != 0 || err != api.ErrArg {
			t.Errorf("of none that may be Add is %d, %v", n, err)
		}
	}
}

package msg_test

import (
	"bytes"
	"encoding/hex"
	"math"
	"math/rand"
	"reflect"
	"slices"
	"strings"
	"testing"

	"legate/api"
	"legate/msg"
	"legate/name"
)

// fromHex is bytes that are written as hexadecimal digits, with blanks between.
func fromHex(t testing.TB, s string) []byte {
	t.Helper()
	b, err := hex.DecodeString(strings.Join(strings.Fields(s), ""))
	if err != nil {
		t.Fatal(err)
	}
	return b
}

func TestTheExample(t *testing.T) {
	b, err := msg.Encode(api.Msg{Kind: api.MsgFail, Fail: api.Fail{Err: 3, Nonce: 1}})
	if err != api.OK || !bytes.Equal(b, fromHex(t, "7e 06 02 01 03 02 01 01")) {
		t.Errorf("%x, %v", b, err)
	}
	m, err := msg.Decode(b)
	if err != api.OK || !reflect.DeepEqual(m, api.Msg{Kind: 5, Fail: api.Fail{Err: api.ErrForm + 1, Nonce: 1}}) {
		t.Errorf("%+v, %v", m, err)
	}
}

// written is the bytes of each good one.
func written() map[string]string {
	const (
		aEdu   = "30 0c 1b05 412e454455 1b03 6a6f65 "
		tgt    = "30 0d 1b01 41 1b08 6b72627467742f42 "
		webTwo = "30 10 1b07 2f434f4d2f4850 1b05 7765623830 "
		rising = "0420 000102030405060708090a0b0c0d0e0f 101112131415161718191a1b1c1d1e1f "
		ticket = "61 16 " + tgt + "0201 03 0402 dead "
	)
	return map[string]string{
		"Part":    "63 41 " + aEdu + rising + "1b08 4544552c4d49542e 0201 05 0202 03e8",
		"Authn":   "62 15 " + aEdu + "0202 0080 0201 07",
		"RepPart": "7a 40 " + rising + webTwo + "0201 06 0202 012c 0203 00ffff",
		"AsReq":   "6a 24 " + aEdu + tgt + "0202 03e9 0201 01",
		"TgsReq":  "6c 38 " + ticket + "0403 090807 " + webTwo + "0204 40000000 0201 02",
		"Rep":     "6b 2c " + aEdu + ticket + "0404 01020304",
		"ApReq":   "6e 1b " + ticket + "0401 05",
		"Fail":    "7e 06 0201 03 0201 04",
	}
}

func TestEachIsWrittenAsItsElements(t *testing.T) {
	for _, k := range kinds() {
		want := fromHex(t, written()[k.name])
		if b, err := k.encode(k.good()); err != api.OK || !bytes.Equal(b, want) {
			t.Errorf("%s: %v, %x, not %x", k.name, err, b, want)
		}
		if p, err := k.decode(want); err != api.OK || !reflect.DeepEqual(p, k.good()) {
			t.Errorf("%s: %v, %+v, not %+v", k.name, err, p, k.good())
		}
		checkEncode(t, k, "a good one", k.good())
		if !checkDecode(t, k, "a good one", want) {
			t.Errorf("%s: the model refuses %x", k.name, want)
		}
	}
}

func TestNumbersAtTheirLimits(t *testing.T) {
	limits := map[string][2]int{
		"Kvno": {1, api.MaxKvno}, "Err": {1, 255}, "Nonce": {0, api.MaxNonce}, "Seq": {0, api.MaxNonce},
		"Start": {0, api.MaxTime}, "End": {0, api.MaxTime}, "Till": {0, api.MaxTime}, "Time": {0, api.MaxTime},
	}
	asked := 0
	for _, k := range kinds() {
		eachNumber(k, func(x place, p any) {
			low, high := limits[x.field()][0], limits[x.field()][1]
			for _, n := range []int{low, low + 1, 127, 128, 255, high - 1, high, low - 1, low - 2, high + 1, high + 256, 1 << 31, 1 << 32, 1<<32 + 5, 1 << 62, math.MaxInt, -5, math.MinInt, -1 << 32} {
				x.v.SetInt(int64(n))
				may := n >= low && n <= high
				if checkEncode(t, k, x.path, p) != may {
					t.Errorf("%s of %d: may be %v", x.path, n, may)
				}
				// One below 0 is laid as 0, so there are no bytes of its own.
				if n >= 0 && checkDecode(t, k, x.path, layOf(p)) != may {
					t.Errorf("%s of %d in bytes: may be %v", x.path, n, may)
				}
			}
			asked++
		})
	}
	if asked != 2+2+3+2+3+1+1+2 {
		t.Errorf("%d numbers", asked)
	}
}

func TestEndsNeedNotBeBehindStarts(t *testing.T) {
	p := goodPart()
	p.Start, p.End = 9, 4
	r := goodRepPart()
	r.Start, r.End = api.MaxTime, 0
	if b, err := msg.EncodePart(*p); err != api.OK || len(b) == 0 {
		t.Error(err)
	}
	if b, err := msg.EncodeRep(*r); err != api.OK || len(b) == 0 {
		t.Error(err)
	}
}

func TestBytesAtTheirLimits(t *testing.T) {
	asked := 0
	for _, k := range kinds() {
		eachPlace(k, func(path string, p any, at *[]byte) {
			for _, n := range []int{0, 1, 2, 127, 128, 255, 256, 799, 800, 801, 802, 1600, 2000, 65535, 65536, 70000} {
				*at = bytes.Repeat([]byte{0xa5}, n)
				may := n >= 1 && n <= api.MaxBlob
				if checkEncode(t, k, path, p) != may {
					t.Errorf("%s of %d bytes: may be %v", path, n, may)
				}
				if checkDecode(t, k, path, layOf(p)) != may {
					t.Errorf("%s of %d bytes in bytes: may be %v", path, n, may)
				}
			}
			*at = nil
			checkEncode(t, k, path+" of nil", p)
			asked++
		})
	}
	if asked != 2+2+2 {
		t.Errorf("%d rows of bytes", asked)
	}
}

func TestKeysHaveTheirBytes(t *testing.T) {
	asked := 0
	for _, k := range kinds() {
		b := layOf(k.good())
		for i, e := range elements(b) {
			if e.tag != 0x04 || len(e.body) != 32 {
				continue
			}
			asked++
			for n := range 300 {
				// The key's own noughts, and a key of noughts.
				for _, body := range [][]byte{make([]byte, n), append(e.body[:32:32], make([]byte, n)...)[:n]} {
					c := changed(b, i, element(0x04, body))
					if checkDecode(t, k, "a Session", c) != (n == 32) {
						t.Errorf("%s: a Session of %d bytes", k.name, n)
					}
				}
			}
		}
		eachPlace(k, func(path string, p any, at *api.Key) {
			for i := range at {
				*at = api.Key{}
				at[i] = 0xff
				checkEncode(t, k, path, p)
			}
		})
	}
	if asked != 2 {
		t.Errorf("%d keys", asked)
	}
}

func TestTransited(t *testing.T) {
	k := kinds()[0]
	check := func(s string, may bool) {
		t.Helper()
		p := goodPart()
		p.Transited = s
		if checkEncode(t, k, "Transited", p) != may || checkDecode(t, k, "Transited", layOf(p)) != may {
			t.Errorf("Transited %q: may be %v", s, may)
		}
	}
	for n, may := range map[int]bool{0: true, 1: true, 127: true, 128: true, 255: true, 256: true, 299: true, 300: true, 301: false, 302: false, 556: false, 800: false, 2000: false, 70000: false} {
		check(strings.Repeat("A", n), may)
		check(strings.Repeat("\x7f", n), n == 0)
	}
	for c := range 256 {
		sign := string([]byte{byte(c)})
		may := c >= 0x20 && c <= 0x7e
		for _, ahead := range []int{0, 1, 5, 150, 298} {
			for _, behind := range []int{0, 1} {
				check(strings.Repeat("A", ahead)+sign+strings.Repeat("B", behind), may)
			}
		}
		check(strings.Repeat(sign, 300), may)
		check(strings.Repeat("A", 299)+sign, may)
		check(strings.Repeat("A", 300)+sign, false)
	}
	check("é", false)
	check("EDU,MIT., /COM,/HP,,", true)
	check("no text of realms", true)
}

// badPrincs is principals that may not be: by the Realm, by the Name, by both.
func badPrincs() []api.Princ {
	l := []api.Princ{{}, {Realm: "a", Name: "A"}, {Realm: "/", Name: "/"}, {Realm: "joe", Name: "A.EDU"}}
	for _, r := range []string{"", "a", "edu", "A.", ".A", "A..B", "/", "A/B", "/A/", "//A", "A.B.C.D.E", "/A/B/C/D/E", "ABCDEFGHI", "/ABCDEFGHI", "A B", " A", "A\x00", "A1", "É"} {
		l = append(l, api.Princ{Realm: r, Name: "joe"}, api.Princ{Realm: r, Name: "krbtgt/A"})
	}
	for _, n := range []string{"", "Joe", "JOE", "abcdefghi", "j.e", "joe ", "joe\x00", "krbtgt/", "krbtgt/a", "krbtgt/A.", "krbtgt/A.B.C.D.E", "krbtgt/ABCDEFGHI", "Krbtgt/A", "krbtgt /A", "krbtgt/A/B", "http/A", "é"} {
		l = append(l, api.Princ{Realm: "A.EDU", Name: n}, api.Princ{Realm: "/COM", Name: n})
	}
	return l
}

func goodPrincs() []api.Princ {
	var l []api.Princ
	for _, r := range []string{"A", "A.EDU", "A.B.C.D", "/A", "/A/B/C/D", "ABCDEFGH.ABCDEFGH.ABCDEFGH.ABCDEFGH", "/ABCDEFGH/ABCDEFGH/ABCDEFGH/ABCDEFGH"} {
		for _, n := range []string{"a", "0", "abcdefgh", "01234567", "krbtgt"} {
			l = append(l, api.Princ{Realm: r, Name: n})
		}
		l = append(l, api.Princ{Realm: r, Name: name.Krbtgt(r)}, api.Princ{Realm: r, Name: "krbtgt/X"}, api.Princ{Realm: r, Name: "krbtgt//X/Y"})
	}
	return l
}

func TestPrincipalsAtEachPlace(t *testing.T) {
	asked := 0
	for _, k := range kinds() {
		eachPlace(k, func(path string, p any, at *api.Princ) {
			asked++
			for _, x := range badPrincs() {
				*at = x
				if checkEncode(t, k, path, p) || checkDecode(t, k, path, layOf(p)) {
					t.Errorf("%s: %q may be", path, x)
				}
			}
			for _, x := range goodPrincs() {
				*at = x
				if !checkEncode(t, k, path, p) || !checkDecode(t, k, path, layOf(p)) {
					t.Errorf("%s: %q may not be", path, x)
				}
			}
		})
	}
	if asked != 1+1+1+2+2+2+1 {
		t.Errorf("%d principals", asked)
	}
}

func TestTheLongestMessages(t *testing.T) {
	p := api.Princ{Realm: "/ABCDEFGH/ABCDEFGH/ABCDEFGH/ABCDEFGH", Name: "krbtgt//ABCDEFGH/ABCDEFGH/ABCDEFGH/ABCDEFGH"}
	most := map[string]int{
		"Part": 4 + 85 + 34 + 304 + 12, "Authn": 2 + 85 + 12, "RepPart": 3 + 34 + 85 + 18, "AsReq": 3 + 170 + 12,
		"TgsReq": 4 + 897 + 804 + 85 + 12, "Rep": 4 + 85 + 897 + 804, "ApReq": 4 + 897 + 804, "Fail": 2 + 4 + 6,
	}
	for _, k := range kinds() {
		q := k.good()
		for _, x := range placesOf(q) {
			switch at := x.v.Addr().Interface().(type) {
			case *api.Princ:
				*at = p
			case *[]byte:
				*at = make([]byte, 800)
			case *string:
				if x.field() == "Transited" {
					*at = strings.Repeat("~", 300)
				}
			case *int:
				*at = 1 << 30
				if x.field() == "Kvno" {
					*at = 255
				}
			case *api.Errno:
				*at = 255
			}
		}
		b, err := k.encode(q)
		if err != api.OK || len(b) != most[k.name] || len(b) > api.MaxMsg {
			t.Errorf("%s: %d bytes, %v, not %d", k.name, len(b), err, most[k.name])
		}
		checkEncode(t, k, "the longest", q)
		checkDecode(t, k, "the longest", b)
	}
}

func TestBytesOfTheGreatestCountAndMore(t *testing.T) {
	for _, k := range kinds() {
		good := layOf(k.good())
		tag, body, _, _ := modelSplit(good)
		for _, n := range []int{api.MaxMsg - 1, api.MaxMsg, api.MaxMsg + 1, 65535, 70000, 1 << 20} {
			refused(t, k, "noughts", make([]byte, n))
			refused(t, k, "noughts behind", append(slices.Clone(good), make([]byte, n-len(good))...))
			refused(t, k, "one element", bytes.Repeat([]byte{tag}, n))
			if room := n - len(body) - 8; room < 65000 {
				b := element(tag, append(slices.Clone(body), element(4, make([]byte, room))...))
				if len(b) != n {
					t.Fatalf("%d bytes, not %d", len(b), n)
				}
				refused(t, k, "one more element", b)
			}
		}
	}
	// A Rep whose Blob makes it just so long, or one more.
	for _, n := range []int{api.MaxMsg, api.MaxMsg + 1} {
		m := goodMsg(api.MsgRep)
		m.Rep.Blob = nil
		m.Rep.Blob = make([]byte, n-len(layOf(m))-4)
		if b := layOf(m); len(b) != n {
			t.Fatalf("%d bytes, not %d", len(b), n)
		}
		if b, err := msg.Encode(*m); err != api.ErrArg || len(b) != 0 {
			t.Errorf("of %d bytes: %v", n, err)
		}
		if x, err := msg.Decode(layOf(m)); err != api.ErrForm || !isZero(&x) {
			t.Errorf("of %d bytes: %v", n, err)
		}
	}
}

func TestKindsThatAreNone(t *testing.T) {
	for _, n := range []int{0, 6, -1, -5, 7, 100, 256, 257, 1<<32 + 1, math.MinInt, math.MaxInt} {
		if b, err := msg.Encode(api.Msg{Kind: n}); err != api.ErrArg || len(b) != 0 {
			t.Errorf("Kind %d: %x, %v", n, b, err)
		}
		for kind := 1; kind <= 5; kind++ {
			m := goodMsg(kind)
			m.Kind = n
			if b, err := msg.Encode(*m); err != api.ErrArg || len(b) != 0 {
				t.Errorf("Kind %d of a field of Kind %d: %x, %v", n, kind, b, err)
			}
		}
	}
	for kind := 1; kind <= 5; kind++ {
		if b, err := msg.Encode(api.Msg{Kind: kind}); err != api.ErrArg || len(b) != 0 {
			t.Errorf("an empty one of Kind %d: %x, %v", kind, b, err)
		}
		for other := 1; other <= 5; other++ {
			m := goodMsg(kind)
			m.Kind = other
			if b, err := msg.Encode(*m); (err == api.OK) != (kind == other) || (len(b) == 0) == (kind == other) {
				t.Errorf("Kind %d of a field of Kind %d: %x, %v", other, kind, b, err)
			}
		}
	}
}

// turn makes a place another one than it is.
func turn(v reflect.Value) {
	switch at := v.Addr().Interface().(type) {
	case *api.Princ:
		at.Realm += "X"
	case *string:
		*at += "a"
	case *[]byte:
		*at = append(slices.Clone(*at), 0)
	case *api.Key:
		at[31]++
	case *api.Errno:
		*at++
	case *int:
		*at++
	}
}

func TestFieldsBesideTheKind(t *testing.T) {
	for kind := 1; kind <= 5; kind++ {
		for other := 1; other <= 5; other++ {
			if other == kind {
				continue
			}
			whole := goodMsg(kind)
			field := reflect.ValueOf(whole).Elem().FieldByName(msgFields()[other-1])
			field.Set(inner(reflect.ValueOf(goodMsg(other)).Elem()))
			if b, err := msg.Encode(*whole); err != api.ErrArg || len(b) != 0 {
				t.Errorf("%d beside %d: %x, %v", other, kind, b, err)
			}
			for i := range places(field, "") {
				m := goodMsg(kind)
				x := places(reflect.ValueOf(m).Elem().FieldByName(msgFields()[other-1]), msgFields()[other-1])[i]
				turn(x.v)
				if b, err := msg.Encode(*m); err != api.ErrArg || len(b) != 0 {
					t.Errorf("%s beside %d: %x, %v", x.path, kind, b, err)
				}
				if x.v.Kind() == reflect.Int {
					x.v.SetInt(-1)
					if b, err := msg.Encode(*m); err != api.ErrArg || len(b) != 0 {
						t.Errorf("%s below 0 beside %d: %x, %v", x.path, kind, b, err)
					}
				}
			}
		}
	}
}

func TestEmptyRowsBesideTheKindAreNothing(t *testing.T) {
	for kind := 1; kind <= 5; kind++ {
		m := goodMsg(kind)
		for _, x := range places(reflect.ValueOf(m).Elem(), "") {
			if b, ok := x.v.Interface().([]byte); ok && len(b) == 0 {
				x.v.SetBytes(append(make([]byte, 0, 5), 1, 2)[:0])
			}
		}
		b, err := msg.Encode(*m)
		if err != api.OK || !bytes.Equal(b, layOf(goodMsg(kind))) {
			t.Errorf("Kind %d: %x, %v", kind, b, err)
		}
	}
}

func TestDecodeOfNothing(t *testing.T) {
	for _, k := range kinds() {
		refused(t, k, "nil", nil)
		refused(t, k, "nothing", []byte{})
		for c := range 256 {
			refused(t, k, "one byte", []byte{byte(c)})
			for _, d := range []byte{0, 1, 2, 0x30, 0x7f, 0x80, 0x81, 0x82, 0xff} {
				refused(t, k, "two bytes", []byte{byte(c), d})
			}
		}
	}
}

func TestDecodeOfCutAndLongerOnes(t *testing.T) {
	r := rand.New(rand.NewSource(1))
	for _, k := range kinds() {
		for _, p := range []any{k.good(), randomOne(r, k), randomOne(r, k)} {
			b := layOf(p)
			for n := range len(b) {
				refused(t, k, "cut", b[:n])
				refused(t, k, "cut ahead", b[n+1:])
			}
			for c := range 256 {
				refused(t, k, "a byte behind", append(slices.Clone(b), byte(c)))
				refused(t, k, "a byte ahead", append([]byte{byte(c)}, b...))
			}
			refused(t, k, "twice", append(slices.Clone(b), b...))
		}
	}
}

// longerLengths is an element with its length in each way but the shortest.
func longerLengths(e found) [][]byte {
	n := len(e.body)
	high, low := byte(n>>8), byte(n)
	var l [][]byte
	for _, form := range [][]byte{{0x81, low}, {0x82, high, low}, {0x83, 0, high, low}, {0x84, 0, 0, high, low}, {0x80}, {low | 0x80}} {
		if b := slices.Concat([]byte{e.tag}, form, e.body); !bytes.Equal(b, element(e.tag, e.body)) {
			l = append(l, b)
		}
	}
	return append(l, slices.Concat([]byte{e.tag, 0x80}, e.body, []byte{0, 0}))
}

// otherNumbers is bodies of a number in another form, and of what is none.
func otherNumbers(body []byte) [][]byte {
	return [][]byte{
		nil, append([]byte{0}, body...), append([]byte{0, 0}, body...), append([]byte{0x80}, body...), append([]byte{0xff}, body...),
		{0x80}, {0xff}, {0, 0}, {0, 0x7f}, {0x40, 0, 0, 0, 0, 0, 0, 1}, {0x7f, 0xff, 0xff, 0xff, 0xff, 0xff, 0xff, 0xff},
		append([]byte{1, 0, 0, 0, 0, 0, 0, 0}[:9-min(len(body), 8)], body...), append(make([]byte, 20), body...),
		append(append([]byte{1}, make([]byte, 8-min(len(body), 8))...), body...),
	}
}

func TestDecodeOfOtherForms(t *testing.T) {
	r := rand.New(rand.NewSource(2))
	for _, k := range kinds() {
		for _, p := range []any{k.good(), randomOne(r, k), randomOne(r, k), randomOne(r, k)} {
			b := layOf(p)
			for i, e := range elements(b) {
				same := element(e.tag, e.body)
				if !bytes.Equal(changed(b, i, same), b) {
					t.Fatal("an element that stays changes the bytes")
				}
				for tag := range 256 {
					if byte(tag) != e.tag {
						refused(t, k, "another tag", changed(b, i, element(byte(tag), e.body)))
					}
				}
				for _, x := range longerLengths(e) {
					refused(t, k, "a longer length", changed(b, i, x))
				}
				refused(t, k, "an element too few", changed(b, i, nil))
				for _, more := range [][]byte{same, {2, 1, 0}, {4, 0}, {0x1b, 0}, {0x30, 0}, {0, 0}, {0}} {
					refused(t, k, "an element too many behind", changed(b, i, append(slices.Clone(same), more...)))
					refused(t, k, "an element too many ahead", changed(b, i, append(slices.Clone(more), same...)))
					if hasElements(e.tag) {
						refused(t, k, "an element too many within", changed(b, i, element(e.tag, append(slices.Clone(e.body), more...))))
					}
				}
				if hasElements(e.tag) {
					refused(t, k, "no elements", changed(b, i, element(e.tag, nil)))
					refused(t, k, "elements without what is around", changed(b, i, e.body))
				}
				refused(t, k, "an element around", changed(b, i, element(0x30, same)))
				if e.tag == 0x02 {
					for _, body := range otherNumbers(e.body) {
						if n := len(body); n > 0 && bytes.Equal(body, e.body) {
							continue
						}
						checkDecode(t, k, "another number", changed(b, i, element(e.tag, body)))
					}
					for _, body := range otherNumbers(e.body)[:5] {
						refused(t, k, "a number in another form", changed(b, i, element(e.tag, body)))
					}
				}
			}
		}
	}
}

func TestDecodeOfNeighboursThatChangePlaces(t *testing.T) {
	for _, k := range kinds() {
		b := layOf(k.good())
		tag, body, _, _ := modelSplit(b)
		var l [][]byte
		for rest := body; len(rest) > 0; {
			tag, inner, behind, _ := modelSplit(rest)
			l, rest = append(l, element(tag, inner)), behind
		}
		for i := range l {
			for j := range i {
				x := slices.Clone(l)
				x[i], x[j] = x[j], x[i]
				c := element(tag, slices.Concat(x...))
				took := checkDecode(t, k, "two elements that change places", c)
				if l[i][0] != l[j][0] && took {
					t.Errorf("%s: elements %d and %d may stand in either order", k.name, j, i)
				}
			}
		}
	}
}

func TestDecodeOfOneAsAnother(t *testing.T) {
	r := rand.New(rand.NewSource(3))
	for _, k := range kinds() {
		for _, other := range kinds() {
			for _, p := range []any{other.good(), randomOne(r, other)} {
				b := layOf(p)
				_, twoMsgs := p.(*api.Msg)
				if _, ok := k.good().(*api.Msg); ok && twoMsgs || k.name == other.name {
					if x, err := k.decode(b); err != api.OK || !alike(x, p) {
						t.Errorf("%s as a message: %v", other.name, err)
					}
				} else {
					refused(t, k, other.name, b)
				}
				if k.name == other.name {
					continue
				}
				_, body, _, _ := modelSplit(b)
				mine, _, _, _ := modelSplit(layOf(k.good()))
				refused(t, k, other.name+" under its tag", element(mine, body))
			}
		}
		refused(t, k, "a principal", modelLay(reflect.ValueOf(joe())))
		refused(t, k, "a ticket", modelLay(reflect.ValueOf(goodTicket())))
	}
}

func TestDecodeWithEachByteChanged(t *testing.T) {
	for _, k := range kinds() {
		b := layOf(k.good())
		took := 0
		for i := range b {
			for c := range 256 {
				x := slices.Clone(b)
				x[i] = byte(c)
				if checkDecode(t, k, "a byte that changed", x) {
					took++
				}
			}
		}
		if took < 256 || took > 256*len(b)/2+256*32 {
			t.Errorf("%s: %d are taken of %d", k.name, took, 256*len(b))
		}
	}
}

func TestRandomOnes(t *testing.T) {
	r := rand.New(rand.NewSource(4))
	for _, k := range kinds() {
		for range 200 {
			p := randomOne(r, k)
			if !checkEncode(t, k, "a random one", p) {
				t.Fatalf("%s: %+v may not be", k.name, p)
			}
			b := layOf(p)
			if !checkDecode(t, k, "a random one", b) {
				t.Fatalf("%s: %x is refused", k.name, b)
			}
			for range 1 + r.Intn(2) {
				spoil(r, p)
			}
			checkEncode(t, k, "a spoiled one", p)
			checkDecode(t, k, "a spoiled one", layOf(p))
			for range 10 {
				x := slices.Clone(b)
				for range 1 + r.Intn(3) {
					i := r.Intn(min(len(x), 1+r.Intn(len(x))))
					switch r.Intn(3) {
					case 0:
						x[i] = byte(r.Intn(256))
					case 1:
						x = slices.Delete(x, i, i+1)
					case 2:
						x = slices.Insert(x, i, byte(r.Intn(256)))
					}
					if len(x) == 0 {
						break
					}
				}
				checkDecode(t, k, "random bytes", x)
			}
		}
	}
}

func same(t *testing.T, what string, a, b *api.Msg, want bool) {
	t.Helper()
	one, two := clone(a), clone(b)
	if msg.Same(*a, *b) != want || msg.Same(*b, *a) != want {
		t.Errorf("%s: Same is not %v: %s, %s", what, want, brief(a), brief(b))
	}
	if !alike(a, one) || !alike(b, two) {
		t.Errorf("%s: what was handed in has changed", what)
	}
}

func TestSameOfOneAndOfOnesThatDiffer(t *testing.T) {
	r := rand.New(rand.NewSource(5))
	for kind := 1; kind <= 5; kind++ {
		k := kinds()[2+kind]
		for _, one := range []any{goodMsg(kind), randomOne(r, k), randomOne(r, k)} {
			m := one.(*api.Msg)
			same(t, "itself", m, m, true)
			same(t, "a copy", m, clone(m).(*api.Msg), true)
			for i := range placesOf(m) {
				x := clone(m).(*api.Msg)
				at := placesOf(x)[i]
				turn(at.v)
				same(t, at.path, m, x, false)
				if at.v.Kind() == reflect.Int {
					at.v.SetInt(at.v.Int() - 2)
					same(t, at.path, m, x, false)
				}
			}
		}
	}
}

func TestSameLooksAtEachByte(t *testing.T) {
	for kind := 1; kind <= 5; kind++ {
		m := goodMsg(kind)
		for i, y := range placesOf(m) {
			b, ok := y.v.Interface().([]byte)
			if !ok {
				continue
			}
			x := clone(m).(*api.Msg)
			at := placesOf(x)[i]
			for n := range b {
				c := slices.Clone(b)
				c[n] ^= 0x80
				at.v.SetBytes(c)
				same(t, "another byte in "+at.path, m, x, false)
				at.v.SetBytes(b[:n])
				same(t, "fewer bytes in "+at.path, m, x, false)
			}
			at.v.SetBytes(slices.Clone(b))
			same(t, "the same bytes in "+at.path, m, x, true)
		}
	}
}

func TestSameOfTwoKinds(t *testing.T) {
	all := []int{-1, 0, 1, 2, 3, 4, 5, 6, 7, math.MaxInt, math.MinInt}
	for _, kind := range all {
		for _, other := range all {
			same(t, "good ones", goodMsg(kind), goodMsg(other), kind == other)
			same(t, "empty ones", &api.Msg{Kind: kind}, &api.Msg{Kind: other}, kind == other)
			for field := 1; field <= 5; field++ {
				a, b := goodMsg(field), goodMsg(field)
				a.Kind, b.Kind = kind, other
				same(t, "ones of the same fields", a, b, kind == other)
			}
		}
	}
}

func TestSameOfNilAndEmptyRows(t *testing.T) {
	rows := [][]byte{nil, {}, make([]byte, 0, 9), []byte{1, 2, 3}[:0]}
	for kind := 1; kind <= 5; kind++ {
		k := kinds()[2+kind]
		eachPlace(k, func(path string, p any, at *[]byte) {
			m := p.(*api.Msg)
			for _, one := range rows {
				for _, two := range rows {
					*at = one
					x := clone(m).(*api.Msg)
					for _, y := range placesOf(x) {
						if y.path == path {
							y.v.SetBytes(two)
						}
					}
					same(t, path, m, x, true)
				}
				*at = one
				same(t, path+" and a byte", m, goodMsg(kind), false)
			}
		})
	}
}

func TestSameLooksAtNoFieldBesideTheKind(t *testing.T) {
	for kind := 0; kind <= 6; kind++ {
		for other := 1; other <= 5; other++ {
			if other == kind {
				continue
			}
			field := func(m *api.Msg) reflect.Value {
				return reflect.ValueOf(m).Elem().FieldByName(msgFields()[other-1])
			}
			m := goodMsg(kind)
			field(m).Set(inner(reflect.ValueOf(goodMsg(other)).Elem()))
			same(t, "all of a field beside", m, goodMsg(kind), true)
			for i := range places(field(m), "") {
				x := clone(m).(*api.Msg)
				at := places(field(x), msgFields()[other-1])[i]
				turn(at.v)
				same(t, at.path+" beside", m, x, true)
			}
		}
	}
}

// wipe turns all bytes of a row, those of its spare room too.
func wipe(b []byte) {
	b = b[:cap(b)]
	for i := range b {
		b[i] ^= 0x5a
	}
}

// roomy is the same bytes with spare room behind them.
func roomy(b []byte) []byte {
	x := append(make([]byte, 0, len(b)+40), b...)
	for i := range 40 {
		x[:cap(x)][len(b)+i] = byte(i)
	}
	return x
}

func spare(b []byte) []byte { return slices.Clone(b[len(b):cap(b)]) }

func TestEncodeKeepsNothing(t *testing.T) {
	r := rand.New(rand.NewSource(6))
	for _, k := range kinds() {
		for range 20 {
			p := randomOne(r, k)
			var rows, spares [][]byte
			for _, x := range placesOf(p) {
				if b, ok := x.v.Interface().([]byte); ok {
					x.v.SetBytes(roomy(b))
					rows, spares = append(rows, x.v.Bytes()), append(spares, spare(x.v.Bytes()))
				}
			}
			before := clone(p)
			one, _ := k.encode(p)
			two, _ := k.encode(p)
			want := layOf(before)
			wipe(one)
			if !bytes.Equal(two, want) || !alike(p, before) {
				t.Errorf("%s: an answer shares memory with another one, or with what was handed in", k.name)
			}
			for i, b := range rows {
				if !bytes.Equal(spare(b), spares[i]) {
					t.Errorf("%s: the spare room has changed", k.name)
				}
				wipe(b)
			}
			if !bytes.Equal(two, want) {
				t.Errorf("%s: an answer changes with what was handed in", k.name)
			}
		}
	}
}

func TestDecodeKeepsNothing(t *testing.T) {
	r := rand.New(rand.NewSource(7))
	for _, k := range kinds() {
		for range 20 {
			p := randomOne(r, k)
			b := roomy(layOf(p))
			room := spare(b)
			one, _ := k.decode(b)
			two, _ := k.decode(b)
			if !bytes.Equal(b, layOf(p)) || !bytes.Equal(spare(b), room) {
				t.Errorf("%s: what was handed in has changed", k.name)
			}
			wipe(b)
			if !alike(one, p) || !alike(two, p) {
				t.Errorf("%s: an answer changes with what was handed in", k.name)
			}
			wipe(b)
			for i, x := range placesOf(one) {
				row, ok := x.v.Interface().([]byte)
				if !ok {
					continue
				}
				wipe(row)
				for j, y := range placesOf(one) {
					if other, ok := y.v.Interface().([]byte); ok && j != i && !bytes.Equal(other, placesOf(p)[j].v.Bytes()) {
						t.Errorf("%s: two rows of one answer share memory", k.name)
					}
				}
				wipe(row)
			}
			for _, x := range placesOf(one) {
				if row, ok := x.v.Interface().([]byte); ok {
					wipe(row)
				}
			}
			if !alike(two, p) || !bytes.Equal(b, layOf(p)) || !bytes.Equal(spare(b), room) {
				t.Errorf("%s: an answer shares memory with another one, or with what was handed in", k.name)
			}
		}
	}
}

func TestGreatOnesEnd(t *testing.T) {
	text := strings.Repeat("A.", 1<<19)
	row := make([]byte, 1<<20)
	for _, k := range kinds() {
		eachPlace(k, func(path string, p any, at *string) {
			*at = text
			checkEncode(t, k, path, p)
		})
		eachPlace(k, func(path string, p any, at *[]byte) {
			*at = row
			checkEncode(t, k, path, p)
			if m, ok := p.(*api.Msg); ok {
				same(t, path, m, goodMsg(m.Kind), false)
			}
		})
		tag, _, _, _ := modelSplit(layOf(k.good()))
		nested := []byte{}
		for range 400 {
			nested = element(tag, nested)
		}
		refused(t, k, "nested", nested)
		if p, err := k.decode(bytes.Repeat([]byte{tag, 0x82, 0xff, 0xff}, 1<<18)); err != api.ErrForm || !isZero(p) {
			t.Errorf("%s: %v", k.name, err)
		}
	}
}

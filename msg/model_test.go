package msg_test

import (
	"bytes"
	"encoding/hex"
	"fmt"
	"math/big"
	"math/rand"
	"reflect"
	"slices"
	"testing"

	"legate/api"
	"legate/msg"
	"legate/name"
)

// kind is one of what is encoded, as a pointer to it.
type kind struct {
	name   string
	good   func() any
	encode func(p any) ([]byte, api.Errno)
	decode func(b []byte) (any, api.Errno)
}

func kinds() []kind {
	l := []kind{
		{"Part", func() any { return goodPart() },
			func(p any) ([]byte, api.Errno) { return msg.EncodePart(*p.(*api.Part)) },
			func(b []byte) (any, api.Errno) { p, err := msg.DecodePart(b); return &p, err }},
		{"Authn", func() any { return goodAuthn() },
			func(p any) ([]byte, api.Errno) { return msg.EncodeAuthn(*p.(*api.Authn)) },
			func(b []byte) (any, api.Errno) { a, err := msg.DecodeAuthn(b); return &a, err }},
		{"RepPart", func() any { return goodRepPart() },
			func(p any) ([]byte, api.Errno) { return msg.EncodeRep(*p.(*api.RepPart)) },
			func(b []byte) (any, api.Errno) { p, err := msg.DecodeRep(b); return &p, err }},
	}
	for i, field := range msgFields() {
		l = append(l, kind{field, func() any { return goodMsg(i + 1) },
			func(p any) ([]byte, api.Errno) { return msg.Encode(*p.(*api.Msg)) },
			func(b []byte) (any, api.Errno) { m, err := msg.Decode(b); return &m, err }})
	}
	return l
}

// msgFields is the fields of a message, as its Kind, from 1 on, names them.
func msgFields() []string { return []string{"AsReq", "TgsReq", "Rep", "ApReq", "Fail"} }

func joe() api.Princ { return api.Princ{Realm: "A.EDU", Name: "joe"} }

func krbtgt() api.Princ { return api.Princ{Realm: "A", Name: "krbtgt/B"} }

func web() api.Princ { return api.Princ{Realm: "/COM/HP", Name: "web80"} }

func goodTicket() api.Ticket {
	return api.Ticket{Server: krbtgt(), Kvno: 3, Blob: []byte{0xde, 0xad}}
}

func risingKey() api.Key {
	var k api.Key
	for i := range k {
		k[i] = byte(i)
	}
	return k
}

func goodPart() *api.Part {
	return &api.Part{Client: joe(), Session: risingKey(), Transited: "EDU,MIT.", Start: 5, End: 1000}
}

func goodAuthn() *api.Authn { return &api.Authn{Client: joe(), Time: 128, Seq: 7} }

func goodRepPart() *api.RepPart {
	return &api.RepPart{Session: risingKey(), Server: web(), Start: 6, End: 300, Nonce: 65535}
}

func goodMsg(kind int) *api.Msg {
	m := api.Msg{Kind: kind}
	switch kind {
	case api.MsgAsReq:
		m.AsReq = api.AsReq{Client: joe(), Server: krbtgt(), Till: 1001, Nonce: 1}
	case api.MsgTgsReq:
		m.TgsReq = api.TgsReq{Ticket: goodTicket(), Authn: []byte{9, 8, 7}, Server: web(), Till: 1 << 30, Nonce: 2}
	case api.MsgRep:
		m.Rep = api.Rep{Client: joe(), Ticket: goodTicket(), Blob: []byte{1, 2, 3, 4}}
	case api.MsgApReq:
		m.ApReq = api.ApReq{Ticket: goodTicket(), Authn: []byte{5}}
	case api.MsgFail:
		m.Fail = api.Fail{Err: 3, Nonce: 4}
	}
	return &m
}

// place is a text, number, row of bytes, key or principal somewhere in what p
// points to.
type place struct {
	path string
	v    reflect.Value
}

// places is all places below v, outer ones first.
func places(v reflect.Value, path string) []place {
	var l []place
	if v.Kind() != reflect.Struct || v.Type() == reflect.TypeFor[api.Princ]() {
		l = append(l, place{path, v})
	}
	if v.Kind() == reflect.Struct {
		for i := range v.NumField() {
			l = append(l, places(v.Field(i), path+"."+v.Type().Field(i).Name)...)
		}
	}
	return l
}

// placesOf is all places of what p points to; of a message those that its Kind
// names.
func placesOf(p any) []place {
	v := inner(reflect.ValueOf(p).Elem())
	return places(v, v.Type().Name())
}

// inner is the field that a message names; of all else it is itself.
func inner(v reflect.Value) reflect.Value {
	if m, ok := v.Interface().(api.Msg); ok {
		return v.FieldByName(msgFields()[m.Kind-1])
	}
	return v
}

// field is the last name of a path.
func (p place) field() string { return p.path[lastDot(p.path)+1:] }

func lastDot(s string) int { return bytes.LastIndexByte([]byte(s), '.') }

// eachPlace calls f with each place of that type, each time of a new good one.
func eachPlace[T any](k kind, f func(path string, p any, at *T)) {
	for i := range placesOf(k.good()) {
		p := k.good()
		x := placesOf(p)[i]
		if at, ok := x.v.Addr().Interface().(*T); ok {
			f(x.path, p, at)
		}
	}
}

// eachNumber is eachPlace of numbers, errors too.
func eachNumber(k kind, f func(x place, p any)) {
	for i := range placesOf(k.good()) {
		p := k.good()
		if x := placesOf(p)[i]; x.v.Kind() == reflect.Int {
			f(x, p)
		}
	}
}

// clone is the same in memory of its own.
func clone(p any) any {
	c := reflect.New(reflect.TypeOf(p).Elem())
	c.Elem().Set(reflect.ValueOf(p).Elem())
	for _, x := range places(c.Elem(), "") {
		if b, ok := x.v.Interface().([]byte); ok {
			x.v.SetBytes(slices.Clone(b))
		}
	}
	return c.Interface()
}

// alike tells whether two have the same everywhere, where no bytes are an empty
// row.
func alike(p, q any) bool {
	one, two := places(reflect.ValueOf(p).Elem(), ""), places(reflect.ValueOf(q).Elem(), "")
	for i, x := range one {
		if b, ok := x.v.Interface().([]byte); ok {
			if !bytes.Equal(b, two[i].v.Bytes()) {
				return false
			}
		} else if x.v.Interface() != two[i].v.Interface() {
			return false
		}
	}
	return len(one) == len(two)
}

func isZero(p any) bool { return reflect.ValueOf(p).Elem().IsZero() }

// The model: what is encoded goes by the fields of a type, in their order.

func tagOf(v reflect.Value) byte {
	return map[string]byte{
		"Princ": 0x30, "Ticket": 0x61, "Authn": 0x62, "Part": 0x63, "AsReq": 0x6a,
		"Rep": 0x6b, "TgsReq": 0x6c, "ApReq": 0x6e, "RepPart": 0x7a, "Fail": 0x7e,
	}[v.Type().Name()]
}

// element is a tag, the shortest length, and a body.
func element(tag byte, body []byte) []byte {
	length := big.NewInt(int64(len(body))).Bytes()
	switch {
	case len(body) == 0:
		length = []byte{0}
	case len(body) >= 128:
		length = append([]byte{0x80 + byte(len(length))}, length...)
	}
	return slices.Concat([]byte{tag}, length, body)
}

// digits is the bytes of a number that is not below 0.
func digits(n int64) []byte {
	b := big.NewInt(n).Bytes()
	if len(b) == 0 || b[0] >= 0x80 {
		b = append([]byte{0}, b...)
	}
	return b
}

func modelLay(v reflect.Value) []byte {
	v = inner(v)
	switch x := v.Interface().(type) {
	case string:
		return element(0x1b, []byte(x))
	case []byte:
		return element(0x04, x)
	case api.Key:
		return element(0x04, x[:])
	}
	if v.Kind() == reflect.Int {
		return element(0x02, digits(max(v.Int(), 0)))
	}
	var body []byte
	for i := range v.NumField() {
		body = append(body, modelLay(v.Field(i))...)
	}
	return element(tagOf(v), body)
}

func layOf(p any) []byte { return modelLay(reflect.ValueOf(p).Elem()) }

// modelMay tells whether all may be that stands below a field of that name.
func modelMay(v reflect.Value, field string) bool {
	limits := map[string][2]int64{
		"Kvno": {1, 255}, "Err": {1, 255}, "Start": {0, 1 << 30}, "End": {0, 1 << 30}, "Till": {0, 1 << 30},
		"Time": {0, 1 << 30}, "Nonce": {0, 1 << 30}, "Seq": {0, 1 << 30},
	}
	switch x := v.Interface().(type) {
	case api.Princ:
		return name.IsPrinc(x)
	case string:
		fits := len(x) <= 300
		for _, c := range []byte(x) {
			fits = fits && c-0x20 <= 0x7e-0x20
		}
		return fits
	case []byte:
		return len(x) > 0 && len(x) < 801
	case api.Key:
		return true
	}
	if v.Kind() == reflect.Int {
		low, ok := limits[field]
		return ok && v.Int() >= low[0] && v.Int() <= low[1]
	}
	for i := range v.NumField() {
		if !modelMay(v.Field(i), v.Type().Field(i).Name) {
			return false
		}
	}
	return true
}

// mayBe tells whether what p points to may be.
func mayBe(p any) bool {
	m, ok := p.(*api.Msg)
	if !ok {
		return modelMay(reflect.ValueOf(p).Elem(), "")
	}
	if m.Kind < 1 || m.Kind > 5 {
		return false
	}
	for i, f := range msgFields() {
		v := reflect.ValueOf(m).Elem().FieldByName(f)
		if i+1 == m.Kind {
			if !modelMay(v, "") {
				return false
			}
			continue
		}
		for _, x := range places(v, "") {
			if b, ok := x.v.Interface().([]byte); ok && len(b) == 0 {
				continue
			}
			if !x.v.IsZero() {
				return false
			}
		}
	}
	return true
}

// modelTake sets v to what b begins with, if that is its one form.
func modelTake(b []byte, v reflect.Value) (rest []byte, ok bool) {
	tag, body, rest, ok := modelSplit(b)
	if !ok {
		return nil, false
	}
	switch v.Interface().(type) {
	case string:
		v.SetString(string(body))
		return rest, tag == 0x1b
	case []byte:
		v.SetBytes(slices.Clone(body))
		return rest, tag == 0x04
	case api.Key:
		if len(body) != 32 {
			return nil, false
		}
		v.Set(reflect.ValueOf(api.Key(body)))
		return rest, tag == 0x04
	}
	if v.Kind() == reflect.Int {
		n := new(big.Int).SetBytes(body)
		if !n.IsInt64() || !bytes.Equal(body, digits(n.Int64())) {
			return nil, false
		}
		v.SetInt(n.Int64())
		return rest, tag == 0x02
	}
	for i := range v.NumField() {
		if body, ok = modelTake(body, v.Field(i)); !ok {
			return nil, false
		}
	}
	return rest, tag == tagOf(v) && len(body) == 0
}

// modelSplit parts b behind its first element.
func modelSplit(b []byte) (tag byte, body, rest []byte, ok bool) {
	for _, head := range []int{2, 3, 4} {
		if len(b) < head || head > 2 && b[1] != byte(0x80+head-2) || head == 2 && b[1] >= 0x80 {
			continue
		}
		size := b[1:2]
		if head > 2 {
			size = b[2:head]
		}
		n := int(new(big.Int).SetBytes(size).Int64())
		if len(b) < head+n || !bytes.HasPrefix(element(b[0], b[head:head+n]), b[:head]) {
			return 0, nil, nil, false
		}
		return b[0], b[head : head+n], b[head+n:], true
	}
	return 0, nil, nil, false
}

// modelDecode is what b has, as k's Decode may answer it.
func modelDecode(k kind, b []byte) (any, bool) {
	empty, _ := k.decode(nil)
	if _, ok := empty.(*api.Msg); !ok {
		rest, ok := modelTake(b, reflect.ValueOf(empty).Elem())
		return empty, ok && len(rest) == 0 && mayBe(empty)
	}
	for i := range msgFields() {
		m := api.Msg{Kind: i + 1}
		if rest, ok := modelTake(b, inner(reflect.ValueOf(&m).Elem())); ok && len(rest) == 0 && mayBe(&m) {
			return &m, true
		}
	}
	return empty, false
}

// brief is as much of x as can be read.
func brief(x any) string {
	s := fmt.Sprintf("%+v", x)
	if b, ok := x.([]byte); ok {
		s = hex.EncodeToString(b)
	}
	if len(s) > 400 {
		s = s[:400] + " .."
	}
	return s
}

// checkEncode holds Encode of p against the model, and Decode of that against p.
func checkEncode(t *testing.T, k kind, what string, p any) bool {
	t.Helper()
	before := clone(p)
	b, err := k.encode(p)
	if !alike(p, before) {
		t.Errorf("%s, %s: what was handed in has changed", k.name, what)
	}
	if !mayBe(before) {
		if err != api.ErrArg || len(b) != 0 {
			t.Errorf("%s, %s: %s, %v, but it may not be", k.name, what, brief(b), err)
		}
		return false
	}
	if err != api.OK || !bytes.Equal(b, layOf(before)) {
		t.Errorf("%s, %s: %v, %s, not %s", k.name, what, err, brief(b), brief(layOf(before)))
		return true
	}
	if q, err := k.decode(b); err != api.OK || !alike(q, before) {
		t.Errorf("%s, %s: Decode of Encode is %v, %s, not %s", k.name, what, err, brief(q), brief(before))
	}
	return true
}

// checkDecode holds Decode of b against the model, and Encode of that against b.
func checkDecode(t *testing.T, k kind, what string, b []byte) bool {
	t.Helper()
	before := slices.Clone(b)
	p, err := k.decode(b)
	if !bytes.Equal(b, before) {
		t.Errorf("%s, %s: what was handed in has changed", k.name, what)
	}
	want, ok := modelDecode(k, before)
	if !ok {
		if err != api.ErrForm || !isZero(p) {
			t.Errorf("%s, %s: %s, %v of %s", k.name, what, brief(p), err, brief(before))
		}
		return false
	}
	if err != api.OK || !alike(p, want) {
		t.Errorf("%s, %s: %v, %s, not %s, of %s", k.name, what, err, brief(p), brief(want), brief(before))
		return true
	}
	if again, err := k.encode(p); err != api.OK || !bytes.Equal(again, before) {
		t.Errorf("%s, %s: Encode of Decode is %v, %s, not %s", k.name, what, err, brief(again), brief(before))
	}
	return true
}

// refused tells that b is nothing of k's.
func refused(t *testing.T, k kind, what string, b []byte) {
	t.Helper()
	if checkDecode(t, k, what, b) {
		t.Errorf("%s, %s: the model takes %s", k.name, what, brief(b))
	}
}

// found is one element among others, however deep.
type found struct {
	tag  byte
	body []byte
}

func hasElements(tag byte) bool { return tag == 0x30 || tag >= 0x61 }

// elements is all elements of b, outer ones first.
func elements(b []byte) []found {
	var l []found
	for len(b) > 0 {
		tag, body, rest, ok := modelSplit(b)
		if !ok {
			panic("no elements")
		}
		l = append(l, found{tag, body})
		if hasElements(tag) {
			l = append(l, elements(body)...)
		}
		b = rest
	}
	return l
}

// changed is b, whose element at that place of elements is another one; the
// lengths of those around it are right.
func changed(b []byte, at int, to []byte) []byte {
	out, _ := change(b, at, to)
	return out
}

func change(b []byte, at int, to []byte) ([]byte, int) {
	var out []byte
	for len(b) > 0 {
		tag, body, rest, _ := modelSplit(b)
		mine := at == 0
		at--
		switch {
		case mine:
			out = append(out, to...)
		case hasElements(tag):
			body, at = change(body, at, to)
			fallthrough
		default:
			out = append(out, element(tag, body)...)
		}
		b = rest
	}
	return out, at
}

// Random ones, good and bad.

func randomText(r *rand.Rand) string {
	b := make([]byte, []int{0, 1, 8, 299, 300}[r.Intn(5)])
	for i := range b {
		b[i] = byte(0x20 + r.Intn(0x5f))
	}
	return string(b)
}

func randomPrinc(r *rand.Rand) api.Princ {
	realms := []string{"A", "A.EDU", "X.Y.Z.ABCDEFGH", "/COM", "/COM/HP/X/ABCDEFGH"}
	names := []string{"a", "0", "joe", "abcd6789", "krbtgt/A.EDU", "krbtgt//COM/HP"}
	return api.Princ{Realm: realms[r.Intn(len(realms))], Name: names[r.Intn(len(names))]}
}

func randomNumber(r *rand.Rand, most int) int {
	l := []int{1, 127, 128, 255, 0, 256, 32767, 32768, 1<<30 - 1, 1 << 30, r.Intn(1 << 30), r.Intn(1000)}
	for {
		if n := l[r.Intn(len(l))]; n <= most && n > 0 || most > 255 && n == 0 {
			return n
		}
	}
}

// randomOne is one of k that may be.
func randomOne(r *rand.Rand, k kind) any {
	p := k.good()
	for _, x := range placesOf(p) {
		switch at := x.v.Addr().Interface().(type) {
		case *api.Princ:
			*at = randomPrinc(r)
		case *[]byte:
			*at = make([]byte, []int{1, 2, 127, 128, 255, 256, 800, 1 + r.Intn(800)}[r.Intn(8)])
			r.Read(*at)
		case *api.Key:
			r.Read(at[:])
		case *api.Errno:
			*at = api.Errno(randomNumber(r, 255))
		case *int:
			*at = randomNumber(r, map[bool]int{true: 255, false: 1 << 30}[x.field() == "Kvno"])
		case *string:
			if x.field() == "Transited" {
				*at = randomText(r)
			}
		}
	}
	return p
}

// spoil changes one place of p, mostly so that p may not be.
func spoil(r *rand.Rand, p any) {
	l := placesOf(p)
	x := l[r.Intn(len(l))]
	switch at := x.v.Addr().Interface().(type) {
	case *api.Princ:
		*at = api.Princ{Realm: at.Name, Name: at.Realm}
	case *[]byte:
		*at = make([]byte, []int{0, 801, 2000, 70000}[r.Intn(4)])
	case *api.Key:
		at[r.Intn(32)]++
	case *string:
		*at += []string{"\x7f", "\x1f", "A", "a", ".", "/", " ", "\xff"}[r.Intn(8)]
	default:
		x.v.SetInt([]int64{-1, 0, 256, 1<<30 + 1, 1 << 40, -1 << 63, 1<<63 - 1}[r.Intn(7)])
	}
}

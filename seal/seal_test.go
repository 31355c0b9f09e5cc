package seal_test

import (
	"bytes"
	"encoding/binary"
	"encoding/hex"
	"math"
	"math/rand"
	"slices"
	"strconv"
	"sync"
	"sync/atomic"
	"testing"

	"legate/api"
	"legate/seal"
	"legate/sip"
	"legate/speck"
)

const (
	topNonce = 1 << 40
	mostText = api.MaxBlob - 16
)

// rising is n bytes, each one more than the one before.
func rising(n int) []byte {
	b := make([]byte, n)
	for i := range b {
		b[i] = byte(i)
	}
	return b
}

func risingKey() api.Key { return api.Key(rising(32)) }

func fromHex(t testing.TB, s string) []byte {
	t.Helper()
	b, err := hex.DecodeString(s)
	if err != nil {
		t.Fatal(err)
	}
	return b
}

func randomBytes(r *rand.Rand, n int) []byte {
	b := make([]byte, n)
	r.Read(b)
	return b
}

func randomKey(r *rand.Rand) api.Key { return api.Key(randomBytes(r, 32)) }

func edgeKeys() []api.Key {
	var ones, first, second api.Key
	for i := range ones {
		ones[i] = 0xff
		if i < 16 {
			first[i] = 0xff
		} else {
			second[i] = 0xff
		}
	}
	return []api.Key{{}, ones, first, second, risingKey()}
}

// The model: the nonce, the bytes and the tag of chapters 2 and 3. It seals
// whatever it is given, also what a Box doesn't.

func modelTag(k api.Key, usage byte, ahead []byte) []byte {
	sum := sip.Sum([16]byte(k[16:]), append([]byte{usage}, ahead...))
	return binary.BigEndian.AppendUint64(nil, sum)
}

func modelTagged(k api.Key, usage byte, ahead []byte) []byte {
	return slices.Concat(ahead, modelTag(k, usage, ahead))
}

func modelTurn(k api.Key, usage byte, nonce uint64, p []byte) []byte {
	q := speck.New([16]byte(k[:16])).Stream(nonce<<8|uint64(usage), len(p))
	for i, c := range p {
		q[i] ^= c
	}
	return q
}

func modelSeal(k api.Key, usage byte, nonce uint64, p []byte) []byte {
	head := binary.BigEndian.AppendUint64(nil, nonce)
	return modelTagged(k, usage, append(head, modelTurn(k, usage, nonce, p)...))
}

// modelOpen says whether it opens.
func modelOpen(k api.Key, usage byte, b []byte) ([]byte, bool) {
	if len(b) < 16 || len(b) > 800 {
		return nil, false
	}
	nonce, end := binary.BigEndian.Uint64(b), len(b)-8
	if nonce > 1<<40 || !bytes.Equal(modelTag(k, usage, b[:end]), b[end:]) {
		return nil, false
	}
	return modelTurn(k, usage, nonce, b[8:end]), true
}

// A watch is a Box, and what its Counts have to be.
type watch struct {
	t                       *testing.T
	key                     api.Key
	box                     *seal.Box
	sealed, opened, refused int
}

func watched(t *testing.T, k api.Key) *watch {
	w := &watch{t: t, key: k, box: seal.New(k)}
	w.wantCounts("nothing")
	return w
}

func (w *watch) wantCounts(behind string) {
	w.t.Helper()
	if a, b, c := w.box.Counts(); a != w.sealed || b != w.opened || c != w.refused {
		w.t.Errorf("behind %s Counts are %d, %d, %d, not %d, %d, %d", behind, a, b, c, w.sealed, w.opened, w.refused)
	}
}

// seal wants what the document says of Seal, and is what was answered.
func (w *watch) seal(usage, nonce int, p []byte) []byte {
	w.t.Helper()
	name := "Seal(" + strconv.Itoa(usage) + ", " + strconv.Itoa(nonce) + ", " + strconv.Itoa(len(p)) + " bytes)"
	var want []byte
	wantErr := api.ErrArg
	if usage >= 0 && usage < 256 && nonce >= 0 && nonce <= 1<<40 && len(p) <= 784 {
		want, wantErr = modelSeal(w.key, byte(usage), uint64(nonce), p), api.OK
		w.sealed++
	}
	got, err := w.box.Seal(usage, nonce, p)
	if err != wantErr || !bytes.Equal(got, want) {
		w.t.Errorf("key %x: %s is %x, %v, not %x, %v", w.key, name, got, err, want, wantErr)
	}
	w.wantCounts(name)
	return got
}

// open wants what the document says of Open, and is what was answered.
func (w *watch) open(usage int, b []byte) ([]byte, api.Errno) {
	w.t.Helper()
	name := "Open(" + strconv.Itoa(usage) + ", " + hex.EncodeToString(b[:min(len(b), 40)]) + " of " + strconv.Itoa(len(b)) + " bytes)"
	var want []byte
	wantErr := api.ErrArg
	if usage >= 0 && usage < 256 {
		var ok bool
		if want, ok = modelOpen(w.key, byte(usage), b); ok {
			wantErr = api.OK
			w.opened++
		} else {
			wantErr = api.ErrSeal
			w.refused++
		}
	}
	got, err := w.box.Open(usage, b)
	if err != wantErr || !bytes.Equal(got, want) {
		w.t.Errorf("key %x: %s is %x, %v, not %x, %v", w.key, name, got, err, want, wantErr)
	}
	w.wantCounts(name)
	return got, err
}

func (w *watch) wantOpened(usage int, b, p []byte) {
	w.t.Helper()
	if got, err := w.open(usage, b); err != api.OK || !bytes.Equal(got, p) {
		w.t.Errorf("key %x: Open(%d, %x) is %x, %v, not %x", w.key, usage, b, got, err, p)
	}
}

func (w *watch) wantError(usage int, b []byte, want api.Errno) {
	w.t.Helper()
	if got, err := w.open(usage, b); err != want || len(got) != 0 {
		w.t.Errorf("key %x: Open(%d, %x) is %x, %v, not %v", w.key, usage, b, got, err, want)
	}
}

// P4.1: sealed bytes that were worked out apart from this program.
func TestWrittenSeals(t *testing.T) {
	rises := "000102030405060708090a0b0c0d0e0f101112131415161718191a1b1c1d1e1f"
	noughts := "0000000000000000000000000000000000000000000000000000000000000000"
	ones := "ffffffffffffffffffffffffffffffffffffffffffffffffffffffffffffffff"
	falls := "fffefdfcfbfaf9f8f7f6f5f4f3f2f1f0efeeedecebeae9e8e7e6e5e4e3e2e1e0"
	for _, w := range []struct {
		key          string
		usage, nonce int
		p, b         string
	}{
		{rises, 0, 0, "", "00000000000000002675ddd3ae2d0ef8"},
		{rises, 2, 1, "412e454455", "0000000000000001bd6a7319bc19afb301fb92da1b"},
		{rises, 255, 0x10000000000, "", "0000010000000000a288923bcd4caf25"},
		{rises, 255, 0x10000000000, "0000000000000000", "00000100000000009e2acf16acff4f16a947eace227eed41"},
		{rises, 11, 0x123456789, "6a6f6540412e454455206f6620612e622e63", "00000001234567892794a181ea188c4a1f5316500751595af2bd40a1e63a851c981a"},
		{rises, 7, 0xffffff, "000102030405060708090a0b0c0d0e0f10111213", "0000000000ffffff474fced3fc5e65779fbc0fe34edcdc9df58a09b5b1bee752a41a1cd6"},
		{rises, 0, 0x1000000, "ff", "0000000001000000395e84d5209085465e"},
		{noughts, 0, 0, "", "00000000000000002d508cd20c8f0cef"},
		{noughts, 2, 1, "412e454455", "0000000000000001917c7d1a50e987028dd354ab21"},
		{noughts, 255, 0x10000000000, "0000000000000000", "0000010000000000d244aafed9c4917e5a45165b559d31f6"},
		{ones, 2, 1, "412e454455", "0000000000000001a0fdb480b5e965cc95ab770c28"},
		{ones, 255, 0x10000000000, "0000000000000000", "0000010000000000b365992d8313fe1377a0b7dfe4ffe9b7"},
		{ones, 11, 0x123456789, "6a6f6540412e454455206f6620612e622e63", "000000012345678912cefeb25fb6fb32993022cec02da0984889f67d970ddb56e400"},
		{falls, 0, 0, "", "000000000000000067628571391cc2cc"},
		{falls, 255, 0x10000000000, "0000000000000000", "00000100000000001fbedeafa843c89db953496a72b74b6d"},
		{falls, 11, 0x123456789, "6a6f6540412e454455206f6620612e622e63", "0000000123456789dc5e7e95f04c7ec1b0a2c73412beb805e9f9a4006006aa574639"},
		{falls, 7, 0xffffff, "000102030405060708090a0b0c0d0e0f10111213", "0000000000ffffff9f4815f96d6bf7652d4cd39bbe466c3f0778be6556ecab11f1d18ff5"},
	} {
		k, p, b := api.Key(fromHex(t, w.key)), fromHex(t, w.p), fromHex(t, w.b)
		if got, err := seal.New(k).Seal(w.usage, w.nonce, p); err != api.OK || !bytes.Equal(got, b) {
			t.Errorf("key %s: Seal(%d, %d, %s) is %x, %v, not %s", w.key, w.usage, w.nonce, w.p, got, err, w.b)
		}
		if got, err := seal.New(k).Open(w.usage, b); err != api.OK || !bytes.Equal(got, p) {
			t.Errorf("key %s: Open(%d, %s) is %x, %v, not %s", w.key, w.usage, w.b, got, err, w.p)
		}
	}
}

// P4.1: as many bytes as there may be, worked out apart from this program.
func TestWrittenLongSeal(t *testing.T) {
	p := make([]byte, mostText)
	for i := range p {
		p[i] = byte(i*7 + 3)
	}
	b, err := seal.New(risingKey()).Seal(3, topNonce-1, p)
	if err != api.OK || len(b) != api.MaxBlob {
		t.Fatalf("the most bytes are sealed as %d bytes, %v", len(b), err)
	}
	if want := fromHex(t, "000000fffffffffff3045dc30d972ef8b8941118cabd0d2c"); !bytes.Equal(b[:24], want) {
		t.Errorf("they begin with %x, not %x", b[:24], want)
	}
	if want := fromHex(t, "f4affe659b4b1ccdf4970aed582b4b81fb082a4ab82b6b9f"); !bytes.Equal(b[776:], want) {
		t.Errorf("they end with %x, not %x", b[776:], want)
	}
}

// P4.1, P4.3: what is sealed is the model's, and Open of it is what was handed
// in, of another Box of that key too; what may not be is ErrArg (P4.2: that
// isn't counted).
func TestSeals(t *testing.T) {
	usages := []int{math.MinInt, -256, -1, 0, 1, 2, 7, 11, 127, 128, 254, 255, 256, 257, 512, math.MaxInt}
	nonces := []int{
		math.MinInt, -topNonce, -256, -1, 0, 1, 255, 256, 1<<24 - 1, 1 << 24, 1<<32 - 1, 1 << 32, 0x0123456789,
		topNonce - 1, topNonce, topNonce + 1, topNonce + 256, 1 << 41, 1 << 56, math.MaxInt,
	}
	counts := []int{0, 1, 7, 8, 9, 16, 100, 783, 784, 785, 800, 801, 5000}
	r := rand.New(rand.NewSource(41))
	for _, k := range edgeKeys() {
		w, other := watched(t, k), watched(t, k)
		for _, usage := range usages {
			for _, nonce := range nonces {
				p := randomBytes(r, counts[r.Intn(len(counts))])
				if b := w.seal(usage, nonce, p); b != nil {
					w.wantOpened(usage, b, p)
					other.wantOpened(usage, b, p)
				}
			}
		}
		for _, n := range counts {
			for _, p := range [][]byte{make([]byte, n), bytes.Repeat([]byte{0xff}, n), rising(n)} {
				if b := w.seal(5, 77, p); b != nil {
					w.wantOpened(5, b, p)
				}
				w.seal(256, 77, p)
				w.seal(5, -1, p)
			}
		}
	}
}

// P4.1, P4.3: ordinary keys, usages, nonces and bytes.
func TestRandomSeals(t *testing.T) {
	r := rand.New(rand.NewSource(42))
	for range 200 {
		w := watched(t, randomKey(r))
		for range 5 {
			usage, nonce, p := r.Intn(256), r.Intn(topNonce+1), randomBytes(r, r.Intn(mostText+1))
			w.wantOpened(usage, w.seal(usage, nonce, p), p)
		}
	}
}

// P4.1: of each usage there is, and of each count of bytes.
func TestEachUsageAndEachCount(t *testing.T) {
	w := watched(t, risingKey())
	for usage := -3; usage < 260; usage++ {
		b := w.seal(usage, 9, rising(20))
		if fits := usage >= 0 && usage <= 255; fits != (len(b) == 36) {
			t.Errorf("20 bytes are sealed with usage %d as %x", usage, b)
		}
		w.open(usage, b)
	}
	for n := range mostText + 3 {
		b := w.seal(2, 9, rising(n))
		if n > mostText && b != nil || n <= mostText && len(b) != n+16 {
			t.Errorf("%d bytes are sealed as %d", n, len(b))
		}
		w.open(2, b)
	}
}

// P4.1: the nonce stands first, in eight bytes, the highest first; the bytes
// without the stream are next, and the tag is last.
func TestPlaces(t *testing.T) {
	k, p := risingKey(), []byte("a text of no great length")
	for _, nonce := range []int{0, 1, 0x0102030405, 0xfffefdfcfb, topNonce} {
		b, err := seal.New(k).Seal(11, nonce, p)
		if err != api.OK || len(b) != len(p)+16 {
			t.Fatalf("nonce %d: Seal is %x, %v", nonce, b, err)
		}
		at := nonce
		for i := 7; i >= 0; i-- {
			if int(b[i]) != at%256 {
				t.Errorf("nonce %x: the byte at %d is %02x, not %02x", nonce, i, b[i], at%256)
			}
			at /= 256
		}
		stream := speck.New([16]byte(k[:16])).Stream(uint64(256*nonce+11), len(p))
		for i, c := range p {
			if b[8+i] != c^stream[i] {
				t.Errorf("nonce %x: the byte at %d is %02x, not %02x", nonce, 8+i, b[8+i], c^stream[i])
			}
		}
		sum := sip.Sum([16]byte(k[16:]), []byte{11}, b[:8], b[8:len(b)-8])
		for i := range 8 {
			if c := b[len(b)-1-i]; c != byte(sum>>(8*i)) {
				t.Errorf("nonce %x: the byte of the tag at %d is %02x, not %02x", nonce, 7-i, c, byte(sum>>(8*i)))
			}
		}
	}
}

// P4.1: the stream's nonce is 256 times the nonce, and the usage, so that the
// first of 256 usages follow each other, and the next nonce's are behind them.
func TestStreamOfNonceAndUsage(t *testing.T) {
	k, noughts := risingKey(), make([]byte, 24)
	x, cipher := seal.New(k), speck.New([16]byte(k[:16]))
	for _, nonce := range []int{0, 1, 2, 255, 256, 1<<24 - 1, 1 << 24, topNonce - 1, topNonce} {
		for _, usage := range []int{0, 1, 2, 127, 128, 253, 254, 255} {
			b, err := x.Seal(usage, nonce, noughts)
			want := cipher.Stream(uint64(nonce)*256+uint64(usage), 24)
			if err != api.OK || len(b) != 40 || !bytes.Equal(b[8:32], want) {
				t.Errorf("noughts are sealed with usage %d and nonce %d as %x, %v: the stream is %x", usage, nonce, b, err, want)
			}
		}
	}
}

// P4.1: the tag is over the usage, the nonce and the bytes between, and over
// nothing else.
func TestTagIsOverAllAhead(t *testing.T) {
	w := watched(t, risingKey())
	ahead := binary.BigEndian.AppendUint64(nil, 5)
	ahead = append(ahead, rising(30)...)
	tag := modelTag(w.key, 9, ahead)
	w.wantOpened(9, slices.Concat(ahead, tag), modelTurn(w.key, 9, 5, ahead[8:]))
	digest := [16]byte(w.key[16:])
	for _, wrong := range []struct {
		name string
		sum  uint64
	}{
		{"without the usage", sip.Sum(digest, ahead)},
		{"with the usage last", sip.Sum(digest, ahead, []byte{9})},
		{"without the nonce", sip.Sum(digest, []byte{9}, ahead[8:])},
		{"without the bytes", sip.Sum(digest, []byte{9}, ahead[:8])},
		{"with a usage of eight bytes", sip.Sum(digest, []byte{0, 0, 0, 0, 0, 0, 0, 9}, ahead)},
		{"over bytes without the stream", sip.Sum(digest, []byte{9}, ahead[:8], modelTurn(w.key, 9, 5, ahead[8:]))},
		{"by the key's first half", sip.Sum([16]byte(w.key[:16]), []byte{9}, ahead)},
		{"by the key's middle", sip.Sum([16]byte(w.key[8:24]), []byte{9}, ahead)},
		{"with the lowest byte first", binary.LittleEndian.Uint64(tag)},
	} {
		b := binary.BigEndian.AppendUint64(slices.Clone(ahead), wrong.sum)
		if bytes.HasSuffix(b, tag) {
			t.Errorf("the tag %x is one %s", tag, wrong.name)
			continue
		}
		w.wantError(9, b, api.ErrSeal)
	}
}

// P4.1: what Open refuses though the tag is that of what stands ahead.
func TestOpenRefusesByCountAndNonce(t *testing.T) {
	w := watched(t, risingKey())
	for n := range 16 {
		w.wantError(3, make([]byte, n), api.ErrSeal)
		w.wantError(3, rising(n), api.ErrSeal)
		if n >= 8 {
			w.wantError(3, modelTagged(w.key, 3, make([]byte, n-8)), api.ErrSeal)
		}
	}
	w.wantError(3, nil, api.ErrSeal)
	w.wantOpened(3, modelTagged(w.key, 3, make([]byte, 8)), nil)
	for _, n := range []int{0, 1, mostText - 1, mostText} {
		w.wantOpened(3, modelSeal(w.key, 3, 4, rising(n)), rising(n))
	}
	for _, n := range []int{mostText + 1, mostText + 2, mostText + 256, 5000, 70000} {
		w.wantError(3, modelSeal(w.key, 3, 4, rising(n)), api.ErrSeal)
	}
	for _, nonce := range []uint64{0, 1, 256, topNonce - 1, topNonce} {
		w.wantOpened(3, modelSeal(w.key, 3, nonce, rising(9)), rising(9))
	}
	for _, nonce := range []uint64{
		topNonce + 1, topNonce + 256, 1 << 41, 1 << 48, 1 << 56, 1 << 62, math.MaxInt64, 1 << 63, 1<<63 + 5, math.MaxUint64,
	} {
		w.wantError(3, modelSeal(w.key, 3, nonce, rising(9)), api.ErrSeal)
		w.wantError(3, modelSeal(w.key, 3, nonce, nil), api.ErrSeal)
	}
}

// P4.1, P4.2: an unfit usage is ErrArg, whatever the bytes are, and isn't
// counted.
func TestUnfitUsageComesFirst(t *testing.T) {
	w := watched(t, risingKey())
	for _, usage := range []int{math.MinInt, -256, -254, -1, 256, 258, 512, math.MaxInt} {
		good := modelSeal(w.key, byte(usage), 1, rising(10))
		for _, b := range [][]byte{
			nil, rising(15), rising(16), good, modelSeal(w.key, 2, 1, rising(10)),
			modelSeal(w.key, byte(usage), topNonce+1, rising(10)), modelSeal(w.key, byte(usage), 1, rising(mostText+1)), rising(5000),
		} {
			w.wantError(usage, b, api.ErrArg)
		}
		for _, p := range [][]byte{nil, rising(10), rising(mostText), rising(mostText + 1)} {
			w.seal(usage, 1, p)
			w.seal(usage, -1, p)
			w.seal(usage, topNonce+1, p)
		}
	}
	if a, b, c := w.box.Counts(); a != 0 || b != 0 || c != 0 {
		t.Errorf("what isn't answered but with ErrArg is counted: %d, %d, %d", a, b, c)
	}
}

// P4.1: the chapter's example: Open of Seal with another usage.
func TestAnotherUsage(t *testing.T) {
	r := rand.New(rand.NewSource(43))
	for _, p := range [][]byte{nil, rising(1), rising(40), rising(mostText)} {
		w := watched(t, randomKey(r))
		for _, usage := range []int{0, 2, 3, 128, 255} {
			b := w.seal(usage, 6, p)
			for other := range 256 {
				// As long as both tags are unlike.
				if other != usage && !bytes.Equal(modelTag(w.key, byte(other), b[:len(b)-8]), b[len(b)-8:]) {
					w.wantError(other, b, api.ErrSeal)
				}
			}
			w.wantOpened(usage, b, p)
		}
	}
}

// P4.1: another key. The second half alone makes the tag, the first alone the
// stream: of another first half the tag is the same, and other bytes come out.
func TestAnotherKey(t *testing.T) {
	k, p := risingKey(), []byte("what was sealed")
	b, _ := seal.New(k).Seal(2, 8, p)
	for i := range k {
		for digit := range 8 {
			other := k
			other[i] ^= 1 << digit
			w := watched(t, other)
			got, err := w.open(2, b)
			switch {
			case i < 16 && (err != api.OK || len(got) != len(p) || bytes.Equal(got, p)):
				t.Errorf("of a key with another byte %d Open is %x, %v", i, got, err)
			case i >= 16 && !bytes.Equal(modelTag(other, 2, b[:len(b)-8]), b[len(b)-8:]) && err != api.ErrSeal:
				t.Errorf("of a key with another byte %d Open is %x, %v", i, got, err)
			}
		}
	}
	var swapped api.Key
	copy(swapped[:16], k[16:])
	copy(swapped[16:], k[:16])
	watched(t, swapped).wantError(2, b, api.ErrSeal)
}

// P4.1: each digit of each byte turned, wherever it stands.
func TestTurnedBytes(t *testing.T) {
	w := watched(t, risingKey())
	for _, n := range []int{0, 1, 20} {
		b := w.seal(2, 8, rising(n))
		for i := range b {
			for digit := range 8 {
				turned := slices.Clone(b)
				turned[i] ^= 1 << digit
				if end := len(b) - 8; !bytes.Equal(modelTag(w.key, 2, turned[:end]), turned[end:]) {
					w.wantError(2, turned, api.ErrSeal)
				}
			}
		}
		w.wantOpened(2, b, rising(n))
	}
}

// P4.1: one byte fewer or more, wherever it stands.
func TestOneByteFewerOrMore(t *testing.T) {
	w := watched(t, risingKey())
	for _, n := range []int{0, 1, 20, mostText} {
		b := w.seal(2, 8, bytes.Repeat([]byte{0xa7}, n))
		for i := range len(b) + 1 {
			for _, c := range []byte{0, 0xff} {
				w.wantUnlikeRefused(slices.Insert(slices.Clone(b), i, c))
			}
			if i < len(b) {
				w.wantUnlikeRefused(slices.Delete(slices.Clone(b), i, i+1))
			}
		}
		w.wantOpened(2, b, bytes.Repeat([]byte{0xa7}, n))
	}
}

func (w *watch) wantUnlikeRefused(b []byte) {
	w.t.Helper()
	if _, ok := modelOpen(w.key, 2, b); !ok {
		w.wantError(2, b, api.ErrSeal)
	}
}

// P4.2: Counts behind each of many calls, those that err among them; of two
// Boxes of one key each has its own.
func TestCounts(t *testing.T) {
	r := rand.New(rand.NewSource(44))
	key := randomKey(r)
	l := []*watch{watched(t, key), watched(t, key), watched(t, randomKey(r))}
	blobs := [][]byte{nil}
	for range 3000 {
		w, usage, b := l[r.Intn(len(l))], r.Intn(5)-1, blobs[r.Intn(len(blobs))]
		if usage == 3 {
			usage = 256
		}
		switch r.Intn(3) {
		case 0:
			blobs = append(blobs, w.seal(usage, r.Intn(20)-2, rising(r.Intn(mostText*11/10))))
		case 1:
			w.open(usage, b)
		case 2:
			w.open(usage, b[:r.Intn(len(b)+1)])
		}
		for _, each := range l {
			each.wantCounts("a call of one of three")
		}
	}
	for i, w := range l {
		if w.sealed == 0 || w.opened == 0 || w.refused == 0 {
			t.Errorf("the Box at %d was counted just %d, %d, %d", i, w.sealed, w.opened, w.refused)
		}
	}
}

// P4.2: each answer is counted when it is there, and just once.
func TestWrittenCounts(t *testing.T) {
	x := seal.New(risingKey())
	want := func(a, b, c int) {
		t.Helper()
		for range 2 {
			if p, q, r := x.Counts(); p != a || q != b || r != c {
				t.Errorf("Counts are %d, %d, %d, not %d, %d, %d", p, q, r, a, b, c)
			}
		}
	}
	want(0, 0, 0)
	b, _ := x.Seal(1, 1, rising(4))
	want(1, 0, 0)
	x.Open(1, b)
	want(1, 1, 0)
	x.Open(1, b)
	want(1, 2, 0)
	x.Open(2, b)
	want(1, 2, 1)
	x.Open(1, b[1:])
	want(1, 2, 2)
	x.Open(1, nil)
	want(1, 2, 3)
	x.Open(256, b)
	x.Open(-1, nil)
	x.Seal(256, 1, nil)
	x.Seal(-1, 1, nil)
	x.Seal(1, -1, nil)
	x.Seal(1, topNonce+1, nil)
	x.Seal(1, 1, make([]byte, mostText+1))
	want(1, 2, 3)
	x.Seal(1, 1, nil)
	want(2, 2, 3)
}

// P4.2: several seal and open with one Box, which was never used before: each
// answer is that of one alone, and none is lost from the Counts.
func TestManyAtATime(t *testing.T) {
	const workers, boxes, rounds = 4, 40, 25
	r := rand.New(rand.NewSource(45))
	for range boxes {
		k := randomKey(r)
		x := seal.New(k)
		var done atomic.Bool
		var all, asking sync.WaitGroup
		start := make(chan struct{})
		asking.Go(func() {
			for last := [3]int{}; !done.Load(); {
				last = wantGrown(t, x, last)
			}
		})
		for worker := range workers {
			all.Go(func() {
				<-start
				for i := range rounds {
					sealAndOpen(t, x, k, worker, worker*rounds+i)
				}
			})
		}
		close(start)
		all.Wait()
		done.Store(true)
		asking.Wait()
		if a, b, c := x.Counts(); a != workers*rounds || b != workers*rounds || c != workers*rounds {
			t.Errorf("behind %d of each Counts are %d, %d, %d", workers*rounds, a, b, c)
		}
	}
}

// sealAndOpen does each of the three that are counted, once, and what isn't.
func sealAndOpen(t *testing.T, x *seal.Box, k api.Key, usage, nonce int) {
	p := rising(nonce)
	want := modelSeal(k, byte(usage), uint64(nonce), p)
	b, err := x.Seal(usage, nonce, p)
	if err != api.OK || !bytes.Equal(b, want) {
		t.Errorf("of many at a time Seal(%d, %d) is %x, %v, not %x", usage, nonce, b, err, want)
	}
	if q, err := x.Open(usage, want); err != api.OK || !bytes.Equal(q, p) {
		t.Errorf("of many at a time Open(%d, %x) is %x, %v", usage, want, q, err)
	}
	want[0] = 1
	if q, err := x.Open(usage, want); err != api.ErrSeal || len(q) != 0 {
		t.Errorf("of many at a time Open(%d, %x) is %x, %v", usage, want, q, err)
	}
	x.Seal(256, nonce, p)
	x.Open(-1, want)
}

// wantGrown wants Counts that are no less than the last ones, nor more of what
// comes later: each one there seals first, then opens, then is refused.
func wantGrown(t *testing.T, x *seal.Box, last [3]int) [3]int {
	a, b, c := x.Counts()
	if a < last[0] || b < last[1] || c < last[2] || b > a || c > b {
		t.Errorf("Counts are %d, %d, %d meanwhile, and were %v", a, b, c, last)
	}
	return [3]int{a, b, c}
}

// P4.3, W8: of a nil Box ErrArg, and no counts.
func TestNilBox(t *testing.T) {
	var x *seal.Box
	for _, usage := range []int{-1, 0, 2, 255, 256} {
		for _, nonce := range []int{-1, 0, 1, topNonce, topNonce + 1} {
			for _, p := range [][]byte{nil, rising(5), rising(mostText), rising(mostText + 1)} {
				if b, err := x.Seal(usage, nonce, p); err != api.ErrArg || len(b) != 0 {
					t.Errorf("Seal(%d, %d, %x) of a nil Box is %x, %v", usage, nonce, p, b, err)
				}
			}
		}
		for _, b := range [][]byte{nil, rising(15), rising(16), modelSeal(api.Key{}, byte(usage), 1, rising(5)), rising(801)} {
			if p, err := x.Open(usage, b); err != api.ErrArg || len(p) != 0 {
				t.Errorf("Open(%d, %x) of a nil Box is %x, %v", usage, b, p, err)
			}
		}
		if a, b, c := x.Counts(); a != 0 || b != 0 || c != 0 {
			t.Errorf("Counts of a nil Box are %d, %d, %d", a, b, c)
		}
	}
}

// W1: a Box that New didn't make ends, too, and Opens what it Seals.
func TestBoxOfNothing(t *testing.T) {
	var x, y, z seal.Box
	b, err := x.Seal(1, 2, rising(30))
	p, other := x.Open(1, b)
	if err != api.OK || other != api.OK || !bytes.Equal(p, rising(30)) {
		t.Errorf("of a Box of nothing Seal is %x, %v, and Open of it %x, %v", b, err, p, other)
	}
	y.Open(1, b)
	z.Counts()
}

// roomy is the bytes, with room behind them that holds ee.
func roomy(b []byte) []byte {
	all := append(slices.Clone(b), bytes.Repeat([]byte{0xee}, 64)...)
	return all[:len(b)]
}

// wantUntouched wants that neither the bytes nor the room behind them changed.
func wantUntouched(t *testing.T, name string, got, want []byte) {
	t.Helper()
	room := got[len(got) : len(want)+64]
	if !bytes.Equal(got, want) || bytes.Count(room, []byte{0xee}) != len(room) {
		t.Errorf("%s was changed: %x, and behind it %x", name, got, room)
	}
}

// P4.3, W6: what is handed in isn't changed, nor is the room behind it.
func TestNothingIsChanged(t *testing.T) {
	k := risingKey()
	x := seal.New(k)
	for _, n := range []int{0, 1, 7, 8, 9, 40, mostText, mostText + 1} {
		p := roomy(rising(n))
		x.Seal(2, 3, p)
		wantUntouched(t, "what was sealed", p, rising(n))
		for _, want := range [][]byte{
			modelSeal(k, 2, 3, rising(n)), modelSeal(k, 3, 3, rising(n)), modelSeal(k, 2, topNonce+1, rising(n)), rising(n),
		} {
			for _, usage := range []int{2, 256} {
				b := roomy(want)
				x.Open(usage, b)
				wantUntouched(t, "what was opened", b, want)
			}
		}
	}
	if k != risingKey() {
		t.Errorf("the key was changed: %x", k)
	}
}

func fill(b []byte) {
	b = b[:cap(b)]
	for i := range b {
		b[i] = 0xaa
	}
}

// P4.3, W6, W7: what is handed in isn't kept, and what is answered is new
// memory, its spare room too: each may be changed, and all else stays.
func TestMemoryIsNew(t *testing.T) {
	for _, n := range []int{0, 1, 7, 8, 9, 40, mostText} {
		k := risingKey()
		x := seal.New(k)
		fill(k[:])
		k = risingKey()
		want := modelSeal(k, 2, 3, rising(n))
		p, b := roomy(rising(n)), roomy(want)
		s1, _ := x.Seal(2, 3, p)
		s2, _ := x.Seal(2, 3, p)
		o1, _ := x.Open(2, b)
		o2, _ := x.Open(2, b)
		fill(s1)
		fill(o1)
		wantUntouched(t, "what was sealed", p, rising(n))
		wantUntouched(t, "what was opened", b, want)
		fill(p)
		fill(b)
		if !bytes.Equal(s2, want) || !bytes.Equal(o2, rising(n)) {
			t.Errorf("%d bytes: another answer became %x and %x", n, s2, o2)
		}
		fill(s2)
		fill(o2)
		s3, err := x.Seal(2, 3, rising(n))
		if err != api.OK || !bytes.Equal(s3, want) {
			t.Errorf("%d bytes: behind changed ones Seal is %x, %v, not %x", n, s3, err, want)
		}
		o3, err := x.Open(2, s3)
		if err != api.OK || !bytes.Equal(o3, rising(n)) {
			t.Errorf("%d bytes: behind changed ones Open is %x, %v", n, o3, err)
		}
		x.Seal(9, 9, rising(mostText))
		x.Open(2, modelSeal(k, 2, 8, make([]byte, n)))
		if !bytes.Equal(s3, want) || !bytes.Equal(o3, rising(n)) {
			t.Errorf("%d bytes: behind other calls the answers became %x and %x", n, s3, o3)
		}
	}
}

// W2: the same of the same, whatever was called before, by whichever Box.
func TestAnswersHangOnArgumentsAlone(t *testing.T) {
	r := rand.New(rand.NewSource(46))
	keys := append(edgeKeys(), randomKey(r), randomKey(r))
	var l []*watch
	for _, k := range keys {
		l = append(l, watched(t, k))
	}
	p := rising(50)
	for range 2000 {
		w, usage, nonce := l[r.Intn(len(l))], r.Intn(3), r.Intn(3)
		b := w.seal(usage, nonce, p[:r.Intn(len(p))])
		l[r.Intn(len(l))].open(r.Intn(3), b)
	}
}

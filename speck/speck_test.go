package speck_test

import (
	"bytes"
	"encoding/hex"
	"math"
	"math/rand"
	"runtime"
	"sync"
	"sync/atomic"
	"testing"

	"legate/speck"
)

const greatest = math.MaxUint32

func keyOf(t testing.TB, s string) [16]byte {
	t.Helper()
	b, err := hex.DecodeString(s)
	if err != nil || len(b) != 16 {
		t.Fatalf("%q is no key", s)
	}
	return [16]byte(b)
}

// The model works with sums of 64 digits that are cut by a division, and keeps
// every word that the document numbers.

const modulus = 1 << 32

func modelRight(w uint64, n int) uint64 { return (w>>n | w<<(32-n)) % modulus }

func modelLeft(w uint64, n int) uint64 { return (w<<n | w>>(32-n)) % modulus }

func modelWords(key [16]byte) [27]uint64 {
	var w [4]uint64
	for i, c := range key {
		w[i/4] += uint64(c) << (8 * (i % 4))
	}
	var k [27]uint64
	var l [29]uint64
	k[0] = w[0]
	copy(l[:], w[1:])
	for i := range 26 {
		l[i+3] = (k[i]+modelRight(l[i], 8))%modulus ^ uint64(i)
		k[i+1] = modelLeft(k[i], 3) ^ l[i+3]
	}
	return k
}

func modelBlock(key [16]byte, x, y uint32) (uint32, uint32) {
	a, b := uint64(x), uint64(y)
	for _, k := range modelWords(key) {
		a = (modelRight(a, 8)+b)%modulus ^ k
		b = modelLeft(b, 3) ^ a
	}
	return uint32(a), uint32(b)
}

func modelStream(key [16]byte, nonce uint64, n int) []byte {
	var b []byte
	for i := uint64(0); len(b) < n; i++ {
		x, y := modelBlock(key, uint32(nonce/modulus), uint32((nonce%modulus+i)%modulus))
		b = append(b, modelBytes(x, y)...)
	}
	return b[:max(n, 0)]
}

func modelBytes(x, y uint32) []byte {
	var b []byte
	for _, w := range []uint32{x, y} {
		b = append(b, byte(w%256), byte(w/256%256), byte(w/65536%256), byte(w/65536/256))
	}
	return b
}

func edgeKeys() [][16]byte {
	var ones, rising, top [16]byte
	for i := range ones {
		ones[i], rising[i], top[i] = 0xff, byte(i), 0x80
	}
	keys := [][16]byte{{}, ones, rising, top}
	// Each of the bytes has to have its own place.
	for i := range 16 {
		var one [16]byte
		one[i] = 1
		keys = append(keys, one)
	}
	return keys
}

func randomKey(r *rand.Rand) [16]byte {
	var key [16]byte
	for i := range key {
		key[i] = byte(r.Intn(256))
	}
	return key
}

func edgeWords() []uint32 {
	return []uint32{0, 1, 0x7f, 0x80, 0xff, 0x100, 0x7fffffff, 0x80000000, 0x80000001, 0xfffffffe, greatest}
}

func wantBlock(t *testing.T, key [16]byte, x, y uint32) {
	t.Helper()
	k := speck.New(key)
	a, b := k.Block(x, y)
	if wantA, wantB := modelBlock(key, x, y); a != wantA || b != wantB {
		t.Errorf("key %x: Block(%08x, %08x) is %08x, %08x, not %08x, %08x", key, x, y, a, b, wantA, wantB)
	}
	if p, q := k.Back(a, b); p != x || q != y {
		t.Errorf("key %x: Back of Block of %08x, %08x is %08x, %08x", key, x, y, p, q)
	}
	p, q := speck.New(key).Back(x, y)
	if a, b := modelBlock(key, p, q); a != x || b != y {
		t.Errorf("key %x: Back(%08x, %08x) is %08x, %08x, the Block of which is %08x, %08x", key, x, y, p, q, a, b)
	}
	if p, q = k.Block(p, q); p != x || q != y {
		t.Errorf("key %x: Block of Back of %08x, %08x is %08x, %08x", key, x, y, p, q)
	}
}

func wantStream(t *testing.T, key [16]byte, nonce uint64, n int) {
	t.Helper()
	if got, want := speck.New(key).Stream(nonce, n), modelStream(key, nonce, n); !bytes.Equal(got, want) {
		t.Errorf("key %x: Stream(%016x, %d) is %x, not %x", key, nonce, n, got, want)
	}
}

// P2.1: blocks that were worked out apart from this program; the first one is
// the document's example. In the others sums go round.
func TestWrittenBlocks(t *testing.T) {
	for _, w := range []struct {
		key        string
		x, y, a, b uint32
	}{
		{"0001020308090a0b1011121318191a1b", 0x3b726574, 0x7475432d, 0x8c6fa548, 0x454e028b},
		{"00000000000000000000000000000000", 0, 0, 0x680448d5, 0x272f692c},
		{"ffffffffffffffffffffffffffffffff", greatest, greatest, 0x0a819fbb, 0x830d3e90},
		{"ffffffffffffffffffffffffffffffff", 0, 0, 0xd5498d3f, 0xe9e74226},
		{"00000000000000000000000000000000", greatest, greatest, 0x09333678, 0x59ecaf93},
		{"000102030405060708090a0b0c0d0e0f", 1, 0, 0x3a1631c6, 0x18a6d6e5},
		{"000102030405060708090a0b0c0d0e0f", 0, 1, 0x5b884f5c, 0x40cc3b4e},
		{"f0f1f2f3f4f5f6f7f8f9fafbfcfdfeff", 0x80000000, 0x80000000, 0x62198da3, 0x2d67ee92},
	} {
		k := speck.New(keyOf(t, w.key))
		if a, b := k.Block(w.x, w.y); a != w.a || b != w.b {
			t.Errorf("key %s: Block(%08x, %08x) is %08x, %08x, not %08x, %08x", w.key, w.x, w.y, a, b, w.a, w.b)
		}
		if x, y := k.Back(w.a, w.b); x != w.x || y != w.y {
			t.Errorf("key %s: Back(%08x, %08x) is %08x, %08x, not %08x, %08x", w.key, w.a, w.b, x, y, w.x, w.y)
		}
		if x, y := speck.New(keyOf(t, w.key)).Back(w.a, w.b); x != w.x || y != w.y {
			t.Errorf("key %s: Back(%08x, %08x) of a fresh Key is %08x, %08x", w.key, w.a, w.b, x, y)
		}
	}
}

// P2.1, P2.3: each block is the model's, and Back and Block undo one another.
func TestBlocks(t *testing.T) {
	for _, key := range edgeKeys() {
		for _, x := range edgeWords() {
			for _, y := range edgeWords() {
				wantBlock(t, key, x, y)
			}
		}
	}
	r := rand.New(rand.NewSource(2))
	for range 1000 {
		wantBlock(t, randomKey(r), r.Uint32(), r.Uint32())
	}
}

// P2.2: streams that were worked out apart from this program.
func TestWrittenStreams(t *testing.T) {
	key := keyOf(t, "000102030405060708090a0b0c0d0e0f")
	for _, w := range []struct {
		nonce uint64
		want  string
	}{
		{0, "03ef28d5651e09b75c4f885b4e3bcc40cf698adc"},
		{0x0123456789abcdef, "4557d68881a514bbb1fd4b308936ab18"},
		{0x00000001fffffffe, "7beaafaaca360fe228b17d537f1d6bb5c631163ae5d6a618c9e6870378f1537f"},
		{math.MaxUint64, "47d5d77d8542f40c154841569cfab44e41ced2fa62e357c3"},
	} {
		if got := hex.EncodeToString(speck.New(key).Stream(w.nonce, len(w.want)/2)); got != w.want {
			t.Errorf("Stream(%016x, %d) is %s, not %s", w.nonce, len(w.want)/2, got, w.want)
		}
	}
}

// P2.2: so many bytes as are asked, of each nonce.
func TestStreams(t *testing.T) {
	nonces := []uint64{
		0, 1, 0xff, 256, modulus - 1, modulus - 2, modulus, modulus + 1,
		0x0123456789abcdef, 0x00000007fffffffd, 0x7fffffffffffffff, 1 << 63, math.MaxUint64 - 1, math.MaxUint64,
	}
	counts := []int{math.MinInt, -8, -1, 0, 1, 2, 3, 4, 5, 6, 7, 8, 9, 15, 16, 17, 23, 24, 25, 63, 64, 65, 800}
	for _, key := range edgeKeys() {
		for _, nonce := range nonces {
			for _, n := range counts {
				wantStream(t, key, nonce, n)
			}
		}
	}
	r := rand.New(rand.NewSource(22))
	for range 300 {
		wantStream(t, randomKey(r), r.Uint64(), r.Intn(300))
	}
	// Counts beyond a byte and beyond two of them.
	wantStream(t, randomKey(r), r.Uint64(), 8*256+3)
	key := randomKey(r)
	long := speck.New(key).Stream(9<<32, 8*65538)
	for _, i := range []int{0, 255, 256, 65535, 65536, 65537} {
		x, y := modelBlock(key, 9, uint32(i))
		if got, want := long[8*i:8*i+8], modelBytes(x, y); !bytes.Equal(got, want) {
			t.Errorf("the block at %d of a long stream is %x, not %x", i, got, want)
		}
	}
}

// P2.2: where the lower digits go round, the upper ones stay.
func TestCountGoesRoundInTheLowerDigits(t *testing.T) {
	r := rand.New(rand.NewSource(3))
	for _, upper := range edgeWords() {
		key := randomKey(r)
		k := speck.New(key)
		b := k.Stream(uint64(upper)<<32|(modulus-2), 32)
		for i, lower := range []uint32{greatest - 1, greatest, 0, 1} {
			x, y := modelBlock(key, upper, lower)
			if got, want := b[8*i:8*i+8], modelBytes(x, y); !bytes.Equal(got, want) {
				t.Errorf("upper digits %08x: the block of lower ones %08x is %x, not %x", upper, lower, got, want)
			}
		}
		if again := k.Stream(uint64(upper)<<32, 16); !bytes.Equal(b[16:], again) {
			t.Errorf("upper digits %08x: behind the last lower ones stands %x, not the stream of lower noughts %x", upper, b[16:], again)
		}
	}
}

// P2.2: a longer stream begins with each shorter one.
func TestLongerStreamBeginsWithShorter(t *testing.T) {
	r := rand.New(rand.NewSource(4))
	for range 5 {
		k, nonce := speck.New(randomKey(r)), r.Uint64()
		long := k.Stream(nonce, 100)
		if len(long) != 100 {
			t.Fatalf("a stream of 100 bytes has %d", len(long))
		}
		for n := -2; n <= 100; n++ {
			if got := k.Stream(nonce, n); !bytes.Equal(got, long[:max(n, 0)]) {
				t.Errorf("the stream of %d bytes is %x, and a longer one begins with %x", n, got, long[:max(n, 0)])
			}
		}
	}
}

// P2.2: the words are made when they are first needed, not before.
func TestMade(t *testing.T) {
	for _, w := range []struct {
		name string
		call func(k *speck.Key)
		made bool
	}{
		{"nothing", func(k *speck.Key) {}, false},
		{"Made", func(k *speck.Key) { k.Made() }, false},
		{"Block", func(k *speck.Key) { k.Block(0, 0) }, true},
		{"Back", func(k *speck.Key) { k.Back(0, 0) }, true},
		{"Stream of a byte", func(k *speck.Key) { k.Stream(0, 1) }, true},
		{"Stream of many", func(k *speck.Key) { k.Stream(5, 100) }, true},
		{"Stream of no byte", func(k *speck.Key) { k.Stream(5, 0) }, false},
		{"Stream of less", func(k *speck.Key) { k.Stream(5, -1) }, false},
	} {
		for _, key := range edgeKeys() {
			k, other := speck.New(key), speck.New(key)
			if k.Made() || other.Made() {
				t.Errorf("key %x: Made before the first call", key)
			}
			w.call(k)
			for range 2 {
				if k.Made() != w.made {
					t.Errorf("key %x: behind %s Made is %v", key, w.name, k.Made())
				}
				if other.Made() {
					t.Errorf("key %x: behind %s of one Key another one is Made", key, w.name)
				}
			}
			a, b := other.Block(1, 2)
			if c, d := k.Block(1, 2); a != c || b != d {
				t.Errorf("key %x: behind %s Block is %08x, %08x, and of a fresh Key %08x, %08x", key, w.name, c, d, a, b)
			}
			if !k.Made() || !other.Made() {
				t.Errorf("key %x: not Made behind Block", key)
			}
		}
	}
}

// P2.2: many may need the words at a time: each one's answer is the same as
// that of one alone, and whoever has an answer finds the words made.
func TestMadeByManyAtATime(t *testing.T) {
	const workers, rounds = 4, 3000
	r := rand.New(rand.NewSource(5))
	keys := make([][16]byte, rounds)
	l := make([]*speck.Key, rounds)
	for i := range l {
		keys[i] = randomKey(r)
		l[i] = speck.New(keys[i])
		if l[i].Made() {
			t.Fatal("Made before the first call")
		}
	}
	var arrived atomic.Int64
	var all sync.WaitGroup
	for worker := range workers {
		all.Go(func() {
			for i, k := range l {
				// They wait for each other, so that all of them meet a fresh Key.
				arrived.Add(1)
				for arrived.Load() < int64(workers*(i+1)) {
					runtime.Gosched()
				}
				wantOneOfMany(t, k, keys[i], (worker+i)%4)
			}
		})
	}
	all.Wait()
}

func wantOneOfMany(t *testing.T, k *speck.Key, key [16]byte, call int) {
	switch call {
	case 0, 1:
		a, b := k.Block(7, 8)
		if x, y := modelBlock(key, 7, 8); a != x || b != y {
			t.Errorf("Block of many at a time is %08x, %08x, not %08x, %08x", a, b, x, y)
		}
	case 2:
		x, y := k.Back(7, 8)
		if a, b := modelBlock(key, x, y); a != 7 || b != 8 {
			t.Errorf("Back of many at a time is %08x, %08x, the Block of which is %08x, %08x", x, y, a, b)
		}
	case 3:
		k.Made()
		got := k.Stream(9, 20)
		if want := modelStream(key, 9, 20); !bytes.Equal(got, want) {
			t.Errorf("Stream of many at a time is %x, not %x", got, want)
		}
	}
	if !k.Made() {
		t.Error("not Made behind an answer")
	}
}

// P2.1, W7: what a Key answers hangs on its own bytes alone, whatever was called.
func TestAnswersStay(t *testing.T) {
	r := rand.New(rand.NewSource(6))
	keys := edgeKeys()
	var l []*speck.Key
	for _, key := range keys {
		l = append(l, speck.New(key))
	}
	for range 2000 {
		i := r.Intn(len(l))
		x, y, nonce, n := r.Uint32(), r.Uint32(), r.Uint64(), r.Intn(40)-3
		switch r.Intn(3) {
		case 0:
			a, b := l[i].Block(x, y)
			if c, d := modelBlock(keys[i], x, y); a != c || b != d {
				t.Fatalf("key %x: Block(%08x, %08x) is %08x, %08x, not %08x, %08x", keys[i], x, y, a, b, c, d)
			}
		case 1:
			a, b := l[i].Back(x, y)
			if c, d := modelBlock(keys[i], a, b); c != x || d != y {
				t.Fatalf("key %x: Back(%08x, %08x) is %08x, %08x", keys[i], x, y, a, b)
			}
		case 2:
			if got, want := l[i].Stream(nonce, n), modelStream(keys[i], nonce, n); !bytes.Equal(got, want) {
				t.Fatalf("key %x: Stream(%016x, %d) is %x, not %x", keys[i], nonce, n, got, want)
			}
		}
	}
}

// W6: the bytes that made a Key may be changed, and so may what it answers,
// spare room too.
func TestMemoryIsNew(t *testing.T) {
	key := keyOf(t, "000102030405060708090a0b0c0d0e0f")
	first := key
	k := speck.New(key)
	key[0]++
	for _, n := range []int{1, 7, 8, 9, 100} {
		want := modelStream(first, 3, n)
		a, b := k.Stream(3, n), k.Stream(3, n)
		fill(a)
		if !bytes.Equal(b, want) {
			t.Errorf("of two streams of %d bytes one was changed, and the other one is %x, not %x", n, b, want)
		}
		fill(b)
		if c := k.Stream(3, n); !bytes.Equal(c, want) {
			t.Errorf("behind a changed answer the stream of %d bytes is %x, not %x", n, c, want)
		}
	}
	x, y := modelBlock(first, 1, 2)
	if a, b := k.Block(1, 2); a != x || b != y {
		t.Errorf("behind changed answers Block is %08x, %08x, not %08x, %08x", a, b, x, y)
	}
}

func fill(b []byte) {
	b = b[:cap(b)]
	for i := range b {
		b[i] = 0xaa
	}
}

// P2.3, W8: of a nil Key all is nothing.
func TestNilKey(t *testing.T) {
	var k *speck.Key
	for range 2 {
		if x, y := k.Block(1, 2); x != 0 || y != 0 {
			t.Errorf("Block of a nil Key is %08x, %08x", x, y)
		}
		if x, y := k.Back(1, 2); x != 0 || y != 0 {
			t.Errorf("Back of a nil Key is %08x, %08x", x, y)
		}
		for _, n := range []int{math.MinInt, -1, 0, 1, 8, 100} {
			if b := k.Stream(1, n); len(b) != 0 {
				t.Errorf("a stream of %d bytes of a nil Key is %x", n, b)
			}
		}
		if k.Made() {
			t.Error("a nil Key is Made")
		}
	}
}

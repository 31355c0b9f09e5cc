package sip_test

import (
	"bytes"
	"encoding/hex"
	"math/big"
	"math/rand"
	"slices"
	"sync"
	"testing"

	"legate/sip"
)

func keyOf(t testing.TB, s string) [16]byte {
	t.Helper()
	b, err := hex.DecodeString(s)
	if err != nil || len(b) != 16 {
		t.Fatalf("%q is no key", s)
	}
	return [16]byte(b)
}

// rising is n bytes, each one more than the one before.
func rising(n int) []byte {
	b := make([]byte, n)
	for i := range b {
		b[i] = byte(i)
	}
	return b
}

func risingKey() [16]byte { return [16]byte(rising(16)) }

// The model lays all bytes, noughts and the count behind each other first, and
// works with whole numbers that are cut by a division.

type model [4]*big.Int

func modelWhole() *big.Int { return new(big.Int).Lsh(big.NewInt(1), 64) }

func modelWord(b []byte) *big.Int {
	b = slices.Clone(b)
	slices.Reverse(b)
	return new(big.Int).SetBytes(b)
}

func modelStart(s string) *big.Int {
	n, _ := new(big.Int).SetString(s, 16)
	return n
}

func (v *model) add(i, j int) {
	sum := new(big.Int).Add(v[i], v[j])
	v[i] = sum.Mod(sum, modelWhole())
}

func (v *model) turn(i int, n uint) {
	high := new(big.Int).Lsh(v[i], n)
	high.Mod(high, modelWhole())
	v[i] = high.Add(high, new(big.Int).Rsh(v[i], 64-n))
}

func (v *model) xor(i int, w *big.Int) { v[i] = new(big.Int).Xor(v[i], w) }

func (v *model) round() {
	v.add(0, 1)
	v.turn(1, 13)
	v.xor(1, v[0])
	v.turn(0, 32)
	v.add(2, 3)
	v.turn(3, 16)
	v.xor(3, v[2])
	v.add(0, 3)
	v.turn(3, 21)
	v.xor(3, v[0])
	v.add(2, 1)
	v.turn(1, 17)
	v.xor(1, v[2])
	v.turn(2, 32)
}

func modelSum(key [16]byte, b []byte) uint64 {
	all := slices.Clone(b)
	for len(all)%8 != 7 {
		all = append(all, 0)
	}
	all = append(all, byte(len(b)%256))
	v := model{modelStart("736f6d6570736575"), modelStart("646f72616e646f6d"), modelStart("6c7967656e657261"), modelStart("7465646279746573")}
	for i := range v {
		v.xor(i, modelWord(key[i%2*8:i%2*8+8]))
	}
	for w := range slices.Chunk(all, 8) {
		m := modelWord(w)
		v.xor(3, m)
		v.round()
		v.round()
		v.xor(0, m)
	}
	v.xor(2, big.NewInt(0xff))
	for range 4 {
		v.round()
	}
	for i := range 3 {
		v.xor(3, v[i])
	}
	return v[3].Uint64()
}

func wantSum(t *testing.T, want uint64, key [16]byte, l ...[]byte) {
	t.Helper()
	if got := sip.Sum(key, l...); got != want {
		b := slices.Concat(l...)
		t.Errorf("key %x: the Sum of %d bytes in %d rows, %x, is %016x, not %016x", key, len(b), len(l), b[:min(len(b), 80)], got, want)
	}
}

func edgeKeys() [][16]byte {
	var ones, top [16]byte
	for i := range ones {
		ones[i], top[i] = 0xff, 0x80
	}
	keys := [][16]byte{{}, ones, risingKey(), top}
	// Each of the bytes has to have its own place.
	for i := range 16 {
		var one [16]byte
		one[i] = 1
		keys = append(keys, one)
	}
	return keys
}

func randomBytes(r *rand.Rand, n int) []byte {
	b := make([]byte, n)
	r.Read(b)
	return b
}

func randomKey(r *rand.Rand) [16]byte { return [16]byte(randomBytes(r, 16)) }

// P3.1: Sums that were worked out apart from this program, of the key 00 to 0f
// and of so many bytes from 00 on; that of fifteen is the document's example.
func TestWrittenSumsOfRisingBytes(t *testing.T) {
	for _, w := range []struct {
		n    int
		want uint64
	}{
		{0, 0x726fdb47dd0e0e31},
		{1, 0x74f839c593dc67fd},
		{2, 0x0d6c8009d9a94f5a},
		{3, 0x85676696d7fb7e2d},
		{4, 0xcf2794e0277187b7},
		{5, 0x18765564cd99a68d},
		{6, 0xcbc9466e58fee3ce},
		{7, 0xab0200f58b01d137},
		{8, 0x93f5f5799a932462},
		{9, 0x9e0082df0ba9e4b0},
		{14, 0xf723ca908e7af2ee},
		{15, 0xa129ca6149be45e5},
		{16, 0x3f2acc7f57c29bdb},
		{17, 0x699ae9f52cbe4794},
		{24, 0xb8ad50c6f649af94},
		{63, 0x958a324ceb064572},
		{64, 0xacd2c40b8502cad8},
		{255, 0xa9c169fec74db21a},
		{256, 0x999d0526d2a7bfd7},
		{257, 0x8a817b8d55b29748},
		{511, 0x969303d05e5af242},
		{512, 0x883b57c3e55ada0e},
		{513, 0x90b6017f2031622b},
		{65535, 0xbc3ff5a47b55a468},
		{65536, 0x8198936ae10d9342},
		{65537, 0x4347963264d2a668},
	} {
		wantSum(t, w.want, risingKey(), rising(w.n))
	}
}

// P3.1: others, in which the words' sums go round at 2^64.
func TestWrittenSums(t *testing.T) {
	for _, w := range []struct {
		key, bytes string
		want       uint64
	}{
		{"00000000000000000000000000000000", "", 0x1e924b9d737700d7},
		{"00000000000000000000000000000000", "00", 0x8b5a0baa49fbc58d},
		{"00000000000000000000000000000000", "ffffffffffffff", 0x2e029c0a4c8f48e3},
		{"00000000000000000000000000000000", "ffffffffffffffff", 0x8050c18b6ac9d15e},
		{"00000000000000000000000000000000", "ffffffffffffffffff", 0xbe29d70ddcf7e35d},
		{"00000000000000000000000000000000", "80808080808080808080808080808080", 0xe1a8b1767fe348e4},
		{"00000000000000000000000000000000", "0000000000000000", 0xe849e8bb6ffe2567},
		{"ffffffffffffffffffffffffffffffff", "", 0x35dd279ee86ce565},
		{"ffffffffffffffffffffffffffffffff", "00", 0x63e8f5ae8073d111},
		{"ffffffffffffffffffffffffffffffff", "ffffffffffffff", 0x7008818ecf918e11},
		{"ffffffffffffffffffffffffffffffff", "ffffffffffffffff", 0xf13e77491777f9d0},
		{"ffffffffffffffffffffffffffffffff", "ffffffffffffffffff", 0x1b8d0792b6620321},
		{"ffffffffffffffffffffffffffffffff", "80808080808080808080808080808080", 0x8cd7b5fed98b89d2},
		{"ffffffffffffffffffffffffffffffff", "0000000000000000", 0x93e9a1f113e70a00},
		{"f0f1f2f3f4f5f6f7f8f9fafbfcfdfeff", "", 0xce509a10c7e54549},
		{"f0f1f2f3f4f5f6f7f8f9fafbfcfdfeff", "00", 0xc5af06e03bc450a6},
		{"f0f1f2f3f4f5f6f7f8f9fafbfcfdfeff", "ffffffffffffff", 0x6c149f03d89636c8},
		{"f0f1f2f3f4f5f6f7f8f9fafbfcfdfeff", "ffffffffffffffff", 0x43fb9df627f03f3d},
		{"f0f1f2f3f4f5f6f7f8f9fafbfcfdfeff", "ffffffffffffffffff", 0x1829613da9321b6d},
		{"f0f1f2f3f4f5f6f7f8f9fafbfcfdfeff", "80808080808080808080808080808080", 0xb5a24f027977620f},
		{"f0f1f2f3f4f5f6f7f8f9fafbfcfdfeff", "0000000000000000", 0xe6dc3d4a21aa42be},
	} {
		b, err := hex.DecodeString(w.bytes)
		if err != nil {
			t.Fatal(err)
		}
		wantSum(t, w.want, keyOf(t, w.key), b)
	}
}

// P3.1: each Sum is the model's, at all counts that a last word can have.
func TestSums(t *testing.T) {
	for _, key := range edgeKeys() {
		for n := range 42 {
			for _, b := range [][]byte{make([]byte, n), bytes.Repeat([]byte{0xff}, n), rising(n)} {
				wantSum(t, modelSum(key, b), key, b)
			}
		}
	}
	r := rand.New(rand.NewSource(31))
	for n := range 300 {
		key, b := randomKey(r), randomBytes(r, n)
		wantSum(t, modelSum(key, b), key, b)
	}
	for _, n := range []int{510, 511, 512, 513, 767, 768, 769, 1023, 1024, 1025, 5000} {
		key, b := randomKey(r), randomBytes(r, n)
		wantSum(t, modelSum(key, b), key, b)
	}
}

// P3.1: each byte has its own place in its word.
func TestEachByteHasItsPlace(t *testing.T) {
	for n := 1; n <= 24; n++ {
		for i := range n {
			for _, c := range []byte{1, 0x80, 0xff} {
				b := make([]byte, n)
				b[i] = c
				wantSum(t, modelSum(risingKey(), b), risingKey(), b)
			}
		}
	}
}

// P3.1: of the count just what is left of 256 is told: noughts, and how many.
func TestCountModulo256(t *testing.T) {
	for _, n := range []int{0, 1, 7, 8, 248, 249, 254, 255, 256, 257, 263, 264, 511, 512, 520} {
		for _, key := range edgeKeys() {
			b := make([]byte, n)
			wantSum(t, modelSum(key, b), key, b)
		}
	}
}

// P3.1, P3.2: no row at all, and rows without a byte.
func TestNoByte(t *testing.T) {
	for _, key := range edgeKeys() {
		want := modelSum(key, nil)
		wantSum(t, want, key)
		wantSum(t, want, key, nil)
		wantSum(t, want, key, []byte{})
		wantSum(t, want, key, [][]byte{}...)
		wantSum(t, want, key, nil, nil, []byte{}, nil)
		wantSum(t, want, key, make([][]byte, 300)...)
		wantSum(t, want, key, rising(20)[:0], rising(20)[20:])
	}
}

// parted is b in rows that end behind the bytes whose digit of ends is one.
func parted(b []byte, ends uint) [][]byte {
	var l [][]byte
	from := 0
	for i := range b {
		if ends>>i&1 == 1 {
			l = append(l, b[from:i+1])
			from = i + 1
		}
	}
	return append(l, b[from:])
}

// P3.2: the same bytes in rows of all ways there are; the last row may be one
// without a byte.
func TestAllWaysToPart(t *testing.T) {
	key := risingKey()
	for _, n := range []int{1, 2, 7, 8, 9, 12} {
		b := bytes.Repeat([]byte{0xa5, 0x3c, 0xff}, n)[:n]
		want := modelSum(key, b)
		for ends := range uint(1) << n {
			wantSum(t, want, key, parted(b, ends)...)
		}
	}
}

// P3.2: words that stand in two rows, in three, in eight, with rows without a
// byte among them.
func TestWordsInManyRows(t *testing.T) {
	key, b := risingKey(), rising(40)
	want := modelSum(key, b)
	wantSum(t, want, key, b)
	wantSum(t, want, key, b[:4], b[4:12], b[12:20], b[20:28], b[28:])
	wantSum(t, want, key, b[:1], b[1:])
	wantSum(t, want, key, b[:39], b[39:])
	wantSum(t, want, key, b[:7], b[7:9], b[9:15], b[15:17], b[17:])
	wantSum(t, want, key, b[:3], nil, b[3:5], []byte{}, b[5:8], nil, nil, b[8:16], b[16:], nil)
	for size := 1; size <= 41; size++ {
		var l [][]byte
		for row := range slices.Chunk(b, size) {
			l = append(l, nil, row, []byte{})
		}
		wantSum(t, want, key, l...)
	}
}

// P3.2: ordinary bytes, parted anyhow.
func TestRandomWaysToPart(t *testing.T) {
	r := rand.New(rand.NewSource(32))
	for range 400 {
		key, b := randomKey(r), randomBytes(r, r.Intn(300))
		want := modelSum(key, b)
		for range 4 {
			var l [][]byte
			for rest := b; len(rest) > 0; {
				n := r.Intn(min(len(rest), 20) + 1)
				l = append(l, rest[:n])
				rest = rest[n:]
			}
			wantSum(t, want, key, l...)
		}
	}
}

// P3.2: the rows may have memory in common.
func TestRowsThatShare(t *testing.T) {
	key, b := risingKey(), rising(30)
	for _, l := range [][][]byte{
		{b, b},
		{b[:13], b[:13], b[:13]},
		{b[5:20], b[:10], b[9:11]},
	} {
		wantSum(t, modelSum(key, slices.Concat(l...)), key, l...)
	}
	want := modelSum(key, slices.Concat(key[:], key[:5]))
	wantSum(t, want, key, key[:], key[:5])
}

// P3.2, W6: neither the rows nor the list of them is changed, nor what stands
// in the room behind them.
func TestNothingIsChanged(t *testing.T) {
	for n := range 40 {
		key, first := risingKey(), bytes.Repeat([]byte{0xee}, n+64)
		second := bytes.Repeat([]byte{0xdd}, n+64)
		behind := []byte{1, 2, 3}
		list := [][]byte{first[:n], nil, second[:n/2], behind, behind, nil}
		l := list[:3]
		want := modelSum(risingKey(), slices.Concat(first[:n], second[:n/2]))
		wantSum(t, want, key, l...)
		if key != risingKey() || !all(first, 0xee) || !all(second, 0xdd) || !bytes.Equal(behind, []byte{1, 2, 3}) {
			t.Errorf("%d bytes: a key, a row, or what stands behind it was changed", n)
		}
		for i, row := range [][]byte{first[:n], nil, second[:n/2], behind, behind, nil} {
			if len(list[i]) != len(row) || cap(list[i]) != cap(row) || len(row) > 0 && &list[i][0] != &row[0] {
				t.Errorf("%d bytes: the row %d of the list was changed", n, i)
			}
		}
	}
}

func all(b []byte, c byte) bool {
	return bytes.Count(b, []byte{c}) == len(b)
}

// P3.2, W6, W7: what is handed in isn't kept: a row that was changed has the
// Sum of what it has now, whatever was called before.
func TestNothingIsKept(t *testing.T) {
	r := rand.New(rand.NewSource(33))
	key, b := risingKey(), rising(50)
	l := [][]byte{b[:11], b[11:]}
	for range 300 {
		before := modelSum(key, b)
		wantSum(t, before, key, l...)
		wantSum(t, before, key, b)
		last, other := key, randomBytes(r, r.Intn(20))
		b[r.Intn(len(b))]++
		key[r.Intn(len(key))]++
		wantSum(t, modelSum(last, other), last, other)
		wantSum(t, modelSum(key, b), key, l...)
	}
}

// W2, W6: several may ask at a time, of the same rows.
func TestManyAtATime(t *testing.T) {
	key, b := risingKey(), rising(100)
	want := modelSum(key, b)
	var workers sync.WaitGroup
	for worker := range 4 {
		workers.Go(func() {
			for range 200 {
				wantSum(t, want, key, b[:worker], b[worker:])
			}
		})
	}
	workers.Wait()
}

package tests

import (
	"bytes"
	"crypto/sha256"
	"encoding/hex"
	"math"
	"math/rand"
	"slices"
	"strings"
	"testing"

	"loop.example/s01906/impl"
)

// The examples of FIPS 180-4.
func TestSha256Known(t *testing.T) {
	for in, want := range map[string]string{
		"":    "e3b0c44298fc1c149afbf4c8996fb92427ae41e4649b934ca495991b7852b855",
		"abc": "ba7816bf8f01cfea414140de5dae2223b00361a396177a9cb410ff61f20015ad",
		"abcdbcdecdefdefgefghfghighijhijkijkljklmklmnlmnomnopnopq":                                                         "248d6a61d20638b8e5c026930c3e6039a33ce45964ff2167f6ecedd419db06c1",
		"abcdefghbcdefghicdefghijdefghijkefghijklfghijklmghijklmnhijklmnoijklmnopjklmnopqklmnopqrlmnopqrsmnopqrstnopqrstu": "cf5b16a778af8380036ce59e7b0492370b249b11e8f07a51afac45037afee9d1",
		strings.Repeat("a", 1000000): "cdc76e5c9914fb9281a1c7e284d73e67f1809a48a497200e046d39ccc7112cd0",
	} {
		got := impl.Sha256([]byte(in))
		if hex.EncodeToString(got[:]) != want {
			t.Errorf("%.20q, %d bytes: %x", in, len(in), got)
		}
	}
}

// All numbers of bytes up to some blocks, the edges of the padding (55, 56, 63, 64, 65, 119, 120) among them, and long ones.
func TestSha256Lengths(t *testing.T) {
	r := rand.New(rand.NewSource(51))
	lengths := []int{4095, 4096, 65535, 65536, 100000}
	for n := range 400 {
		lengths = append(lengths, n)
	}
	for _, n := range lengths {
		whole := make([]byte, n+80)
		r.Read(whole)
		before := deepCopy(whole)
		if got := impl.Sha256(whole[:n]); got != sha256.Sum256(whole[:n]) {
			t.Errorf("%d bytes: %x", n, got)
		}
		checkKept(t, "Sha256", whole, before)
	}
}

func TestTxBytes(t *testing.T) {
	r := rand.New(rand.NewSource(52))
	var txs []impl.Tx
	for ins := range impl.MaxIns + 1 {
		for outs := 1; outs <= impl.MaxOuts; outs++ {
			txs = append(txs, txOf(ins, outs))
		}
	}
	for _, v := range []int{1, 255, 256, 1<<32 - 1, 1 << 32, impl.MaxMoney - 1, impl.MaxMoney} {
		txs = append(txs, impl.Tx{Outs: []int{v}}, impl.Tx{Outs: []int{7, v}})
	}
	for _, h := range []int{0, 1, 255, 256, 65536, impl.MaxHeight - 1, impl.MaxHeight} {
		txs = append(txs, impl.Tx{Outs: []int{1}, Height: h})
	}
	for n := range impl.MaxOuts {
		txs = append(txs, impl.Tx{Ins: []impl.Point{{Id: hashOf("x"), N: n}}, Outs: []int{1}})
	}
	for range 200 {
		txs = append(txs, randomTx(r))
	}
	for _, x := range txs {
		before := deepCopy(x)
		b, ok := impl.EncodeTx(x)
		if !ok || !bytes.Equal(b, rawTx(x)) {
			t.Errorf("%v: %v %v", x, ok, b)
		}
		if id, ok := impl.TxId(x); !ok || id != twice(rawTx(x)) {
			t.Errorf("%v: %v %x", x, ok, id)
		}
		checkKept(t, "a transaction", x, before)
		checkApart(t, "EncodeTx", []any{b}, x)
	}
}

func TestTxRefused(t *testing.T) {
	for name, x := range badTxs() {
		before := deepCopy(x)
		if b, ok := impl.EncodeTx(x); ok || len(b) > 0 {
			t.Errorf("%s: %v %v", name, ok, b)
		}
		if id, ok := impl.TxId(x); ok || id != (impl.Hash{}) {
			t.Errorf("%s: %v %x", name, ok, id)
		}
		checkKept(t, name, x, before)
	}
}

// modelRoot goes down from the root as the words do.
func modelRoot(ids []impl.Hash) impl.Hash {
	if len(ids) == 0 || len(ids) > 1000 {
		return impl.Hash{}
	}
	if len(ids) == 1 {
		return ids[0]
	}
	var half []impl.Hash
	for pair := range slices.Chunk(ids, 2) {
		half = append(half, twice(slices.Concat(pair[0][:], pair[len(pair)-1][:])))
	}
	return modelRoot(half)
}

func TestMerkleRoot(t *testing.T) {
	r := rand.New(rand.NewSource(53))
	numbers := []int{127, 128, 129, 511, 512, 513, 998, 999, 1000, 1001, 1002, 2000}
	for n := range 70 {
		numbers = append(numbers, n)
	}
	for _, n := range numbers {
		// Room behind the ids, into which taking the last one twice must not write.
		whole := make([]impl.Hash, n+3)
		for i := range whole {
			r.Read(whole[i][:])
		}
		before := deepCopy(whole)
		if got := impl.MerkleRoot(whole[:n]); got != modelRoot(before[:n]) {
			t.Errorf("%d ids: %x", n, got)
		}
		checkKept(t, "MerkleRoot", whole, before)
	}
	a, b, c := hashOf("a"), hashOf("b"), hashOf("c")
	if impl.MerkleRoot([]impl.Hash{a, b, c}) != impl.MerkleRoot([]impl.Hash{a, b, c, c}) {
		t.Errorf("a last id that is alone is taken twice")
	}
	if impl.MerkleRoot([]impl.Hash{a, b}) == impl.MerkleRoot([]impl.Hash{b, a}) {
		t.Errorf("the order of the ids counts")
	}
	if impl.MerkleRoot([]impl.Hash{{}}) != (impl.Hash{}) || impl.MerkleRoot(make([]impl.Hash, 2)) != twice(make([]byte, 64)) {
		t.Errorf("ids of zeros")
	}
}

func TestSubsidy(t *testing.T) {
	for _, h := range []int{math.MinInt, -1000000, -3, -2, -1, 0} {
		if got := impl.Subsidy(h); got != 0 {
			t.Errorf("height %d: %d", h, got)
		}
	}
	want := 5000
	for h := 1; h < 400; h++ {
		if h%3 == 0 {
			want /= 2
		}
		if got := impl.Subsidy(h); got != want {
			t.Errorf("height %d: %d and not %d", h, got, want)
		}
	}
	for _, h := range []int{impl.MaxHeight, impl.MaxHeight + 1, 1 << 32, math.MaxInt} {
		if got := impl.Subsidy(h); got != 0 {
			t.Errorf("height %d: %d", h, got)
		}
	}
}

package tests

import (
	"bytes"
	"encoding/binary"
	"fmt"
	"math"
	"math/rand"
	"slices"
	"testing"

	"loop.example/s01906/impl"
)

// goodBlocks are blocks at the edges of what is well formed.
func goodBlocks() []impl.Block {
	all := []impl.Block{{}, blockOf(), blockOf(txOf(0, 1)), blockOf(txOf(6, 6)), blockOf(txOf(0, 1), txOf(1, 2), txOf(2, 6), txOf(6, 1))}
	for n := range impl.MaxTxs + 1 {
		var txs []impl.Tx
		for i := range n {
			txs = append(txs, txOf(i%7, 1+i%6))
		}
		all = append(all, blockOf(txs...))
	}
	all = append(all, blockOf(slices.Repeat([]impl.Tx{txOf(6, 6)}, impl.MaxTxs)...))
	for _, h := range []int{0, 1, 255, 256, 65535, 65536, impl.MaxHeight - 1, impl.MaxHeight} {
		all = append(all, impl.Block{Height: h}, blockOf(impl.Tx{Outs: []int{1}, Height: h}))
	}
	for _, v := range []int{1, 2, 256, 1<<32 - 1, 1 << 32, impl.MaxMoney - 1, impl.MaxMoney} {
		all = append(all, blockOf(impl.Tx{Outs: []int{v, 1}}))
	}
	for n := range impl.MaxOuts {
		all = append(all, blockOf(impl.Tx{Ins: []impl.Point{{N: n}}, Outs: []int{1}}))
	}
	return all
}

// Promise 9: DecodeBlock of EncodeBlock is the block.
func TestBlockThereAndBack(t *testing.T) {
	r := rand.New(rand.NewSource(54))
	all := goodBlocks()
	for range 300 {
		all = append(all, randomBlock(r))
	}
	for i, b := range all {
		before := deepCopy(b)
		raw, ok := impl.EncodeBlock(b)
		if !ok || !bytes.Equal(raw, rawBlock(b)) {
			t.Fatalf("block %d: %v %v", i, ok, raw)
		}
		checkKept(t, "EncodeBlock", b, before)
		checkApart(t, "EncodeBlock", []any{raw}, b)
		bytesBefore := deepCopy(raw)
		back, ok := impl.DecodeBlock(raw)
		if !ok || !sameBlock(back, b) {
			t.Errorf("block %d: %v %v", i, ok, back)
		}
		checkKept(t, "DecodeBlock", raw, bytesBefore)
		checkApart(t, "DecodeBlock", []any{back}, raw)
	}
}

// badBlocks are blocks that are not well formed, each by one fault.
func badBlocks() map[string]impl.Block {
	bad := map[string]impl.Block{}
	for name, x := range badTxs() {
		bad[name+", alone"] = blockOf(x)
		bad[name+", last"] = blockOf(txOf(0, 1), x)
		bad[name+", first"] = blockOf(x, txOf(0, 1))
	}
	bad["one Tx too many"] = blockOf(slices.Repeat([]impl.Tx{txOf(0, 1)}, 13)...)
	bad["256 Txs"] = blockOf(slices.Repeat([]impl.Tx{txOf(0, 1)}, 256)...)
	bad["last of all Txs"] = blockOf(append(slices.Repeat([]impl.Tx{txOf(0, 1)}, 11), impl.Tx{})...)
	for _, h := range []int{math.MinInt, -1 << 32, -1, 1000001, 1 << 31, 1<<32 - 1, 1 << 32, math.MaxInt} {
		bad[fmt.Sprintf("Height %d", h)] = impl.Block{Height: h}
	}
	return bad
}

func TestBlockRefused(t *testing.T) {
	for name, b := range badBlocks() {
		before := deepCopy(b)
		if raw, ok := impl.EncodeBlock(b); ok || len(raw) > 0 {
			t.Errorf("%s: %v %v", name, ok, raw)
		}
		checkKept(t, name, b, before)
	}
}

func noBlock(t *testing.T, name string, raw []byte) {
	t.Helper()
	before := deepCopy(raw)
	if b, ok := impl.DecodeBlock(raw); ok || !sameBlock(b, impl.Block{}) {
		t.Errorf("%s: %v %v", name, ok, b)
	}
	checkKept(t, name, raw, before)
}

// Promise 9: it takes no other bytes: none that are cut off, none with more behind.
func TestBlockCut(t *testing.T) {
	for i, b := range goodBlocks() {
		raw := rawBlock(b)
		for n := range raw {
			noBlock(t, fmt.Sprintf("block %d cut at %d", i, n), raw[:n])
		}
		for _, more := range [][]byte{{0}, {1}, make([]byte, 4), rawTx(txOf(0, 1)), raw} {
			noBlock(t, fmt.Sprintf("block %d and more", i), slices.Concat(raw, more))
		}
	}
	noBlock(t, "nothing", nil)
}

// Promise 9: it takes no bytes of a block that is not well formed. (Where a number does not fit its field, the bytes may be those of another block.)
func TestBlockBytesOfNone(t *testing.T) {
	for name, b := range badBlocks() {
		raw := rawBlock(b)
		if _, another := modelBlock(raw); another {
			checkAsModel(t, raw)
		} else {
			noBlock(t, name, raw)
		}
	}
}

// A value of eight bytes that does not fit is not taken for another.
func TestBlockGreatNumbers(t *testing.T) {
	b := blockOf(impl.Tx{Outs: []int{5}, Height: 5})
	raw := rawBlock(b)
	value := 69 + 2
	for i := range 8 {
		for _, high := range []byte{1, 127, 128, 255} {
			c := slices.Clone(raw)
			c[value+i] = high
			want := 5 + int(high)<<(8*i)
			if i == 0 {
				want = int(high)
			}
			if i < 5 && want <= impl.MaxMoney {
				back, ok := impl.DecodeBlock(c)
				if !ok || back.Txs[0].Outs[0] != want {
					t.Errorf("byte %d is %d: %v %v", i, high, ok, back)
				}
			} else {
				noBlock(t, fmt.Sprintf("byte %d of a value is %d", i, high), c)
			}
		}
	}
	for _, v := range []uint64{1<<64 - 1, 1 << 63, 1<<63 + 5, 1000000000001, 0} {
		noBlock(t, fmt.Sprintf("value %d", v), rawBlock(blockOf(impl.Tx{Outs: []int{int(v)}})))
	}
	for _, at := range []int{64, value + 8} {
		for _, h := range []uint32{1<<32 - 1, 1 << 31, 1<<31 + 5, 1 << 24, 1000001} {
			c := slices.Clone(raw)
			binary.LittleEndian.PutUint32(c[at:], h)
			noBlock(t, fmt.Sprintf("height %d", h), c)
		}
		c := slices.Clone(raw)
		binary.LittleEndian.PutUint32(c[at:], impl.MaxHeight)
		checkAsModel(t, c)
	}
}

// Promise 9: with any byte changed to any other, what is taken is the block with these very bytes.
func TestBlockChangedBytes(t *testing.T) {
	for _, b := range []impl.Block{blockOf(), blockOf(txOf(0, 1)), blockOf(txOf(0, 2), txOf(2, 1), txOf(1, 1))} {
		raw := rawBlock(b)
		for at := range raw {
			c := slices.Clone(raw)
			for x := range 256 {
				c[at] = byte(x)
				checkAsModel(t, c)
			}
		}
	}
}

func TestBlockRandomBytes(t *testing.T) {
	r := rand.New(rand.NewSource(55))
	for range 3000 {
		raw := rawBlock(randomBlock(r))
		for range 1 + r.Intn(3) {
			raw[r.Intn(len(raw))] = byte(r.Intn(14))
		}
		checkAsModel(t, raw)
		if at := r.Intn(len(raw)); r.Intn(2) == 0 {
			checkAsModel(t, slices.Delete(slices.Clone(raw), at, at+1))
		} else {
			checkAsModel(t, slices.Insert(slices.Clone(raw), at, byte(r.Intn(3))))
		}
	}
}

func checkAsModel(t *testing.T, raw []byte) {
	t.Helper()
	want, good := modelBlock(raw)
	got, ok := impl.DecodeBlock(raw)
	if ok != good || !sameBlock(got, want) {
		t.Fatalf("%v: %v %v", raw, ok, got)
	}
	if !ok {
		return
	}
	if again, ok := impl.EncodeBlock(got); !ok || !bytes.Equal(again, raw) {
		t.Fatalf("%v was taken for %v", raw, got)
	}
}

func TestBlockId(t *testing.T) {
	for i, b := range goodBlocks() {
		before := deepCopy(b)
		if id, ok := impl.BlockId(b); !ok || id != twice(rawHead(b)) {
			t.Errorf("block %d: %v %x", i, ok, id)
		}
		checkKept(t, "BlockId", b, before)
	}
	base := blockOf(txOf(1, 1))
	id, _ := impl.BlockId(base)
	for name, x := range badTxs() {
		b := base
		b.Txs = []impl.Tx{x}
		if got, ok := impl.BlockId(b); !ok || got != id {
			t.Errorf("%s: the id is that of the head alone: %v %x", name, ok, got)
		}
	}
	many := base
	many.Txs = slices.Repeat(base.Txs, 300)
	if got, ok := impl.BlockId(many); !ok || got != id {
		t.Errorf("many Txs: %v %x", ok, got)
	}
	for _, h := range []int{math.MinInt, -1 << 32, -1, 1000001, 1 << 32, math.MaxInt} {
		b := base
		b.Height = h
		if got, ok := impl.BlockId(b); ok || got != (impl.Hash{}) {
			t.Errorf("height %d: %v %x", h, ok, got)
		}
	}
}

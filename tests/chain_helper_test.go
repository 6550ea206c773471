package tests

import (
	"bytes"
	"crypto/sha256"
	"encoding/binary"
	"math/rand"
	"slices"

	"loop.example/s01906/impl"
)

func hashOf(seed string) impl.Hash {
	return sha256.Sum256([]byte(seed))
}

func twice(b []byte) impl.Hash {
	first := sha256.Sum256(b)
	return sha256.Sum256(first[:])
}

// txOf is a transaction with so many Ins and Outs, no two of them alike.
func txOf(ins, outs int) impl.Tx {
	t := impl.Tx{Height: 70000 + outs}
	for i := range ins {
		t.Ins = append(t.Ins, impl.Point{Id: hashOf(string(rune('a' + i))), N: i % impl.MaxOuts})
	}
	for i := range outs {
		t.Outs = append(t.Outs, 1+i*123456789)
	}
	return t
}

func blockOf(txs ...impl.Tx) impl.Block {
	return impl.Block{Prev: hashOf("prev"), Root: hashOf("root"), Height: 66051, Txs: txs}
}

// rawTx lays the bytes of any transaction out, well formed or not.
func rawTx(t impl.Tx) []byte {
	b := []byte{byte(len(t.Ins))}
	for _, p := range t.Ins {
		b = append(b, p.Id[:]...)
		b = append(b, byte(p.N))
	}
	b = append(b, byte(len(t.Outs)))
	for _, v := range t.Outs {
		b = binary.LittleEndian.AppendUint64(b, uint64(v))
	}
	return binary.LittleEndian.AppendUint32(b, uint32(t.Height))
}

func rawHead(b impl.Block) []byte {
	raw := slices.Concat(b.Prev[:], b.Root[:])
	return binary.LittleEndian.AppendUint32(raw, uint32(b.Height))
}

// rawBlock lays the bytes of any block out, well formed or not.
func rawBlock(b impl.Block) []byte {
	raw := append(rawHead(b), byte(len(b.Txs)))
	for _, t := range b.Txs {
		raw = append(raw, rawTx(t)...)
	}
	return raw
}

// modelBlock reads a block field by field, and refuses what no block has where it comes.
func modelBlock(raw []byte) (impl.Block, bool) {
	var b impl.Block
	r := bytes.NewReader(raw)
	good := true
	within := func(n, least, most uint64) int {
		if n < least || n > most {
			good = false
		}
		return int(n)
	}
	number := func(into any) {
		if binary.Read(r, binary.LittleEndian, into) != nil {
			good = false
		}
	}
	count := func(least, most uint64) int {
		var n uint8
		number(&n)
		return within(uint64(n), least, most)
	}
	height := func() int {
		var n uint32
		number(&n)
		return within(uint64(n), 0, 1000000)
	}
	number(&b.Prev)
	number(&b.Root)
	b.Height = height()
	for n := count(0, 12); n > 0 && good; n-- {
		var t impl.Tx
		for n := count(0, 6); n > 0 && good; n-- {
			var p impl.Point
			number(&p.Id)
			p.N = count(0, 5)
			t.Ins = append(t.Ins, p)
		}
		for n := count(1, 6); n > 0 && good; n-- {
			var v uint64
			number(&v)
			t.Outs = append(t.Outs, within(v, 1, 1000000000000))
		}
		t.Height = height()
		b.Txs = append(b.Txs, t)
	}
	if !good || r.Len() > 0 {
		return impl.Block{}, false
	}
	return b, true
}

func sameTx(a, b impl.Tx) bool {
	return slices.Equal(a.Ins, b.Ins) && slices.Equal(a.Outs, b.Outs) && a.Height == b.Height
}

func sameBlock(a, b impl.Block) bool {
	return a.Prev == b.Prev && a.Root == b.Root && a.Height == b.Height && slices.EqualFunc(a.Txs, b.Txs, sameTx)
}

func randomTx(r *rand.Rand) impl.Tx {
	t := txOf(r.Intn(impl.MaxIns+1), 1+r.Intn(impl.MaxOuts))
	for i := range t.Ins {
		r.Read(t.Ins[i].Id[:])
		t.Ins[i].N = r.Intn(impl.MaxOuts)
	}
	for i := range t.Outs {
		t.Outs[i] = 1 + r.Intn(impl.MaxMoney)
	}
	t.Height = r.Intn(impl.MaxHeight + 1)
	return t
}

func randomBlock(r *rand.Rand) impl.Block {
	b := impl.Block{Height: r.Intn(impl.MaxHeight + 1)}
	r.Read(b.Prev[:])
	r.Read(b.Root[:])
	for range r.Intn(impl.MaxTxs + 1) {
		b.Txs = append(b.Txs, randomTx(r))
	}
	return b
}

// badTxs are transactions that are not well formed, each by one fault.
func badTxs() map[string]impl.Tx {
	bad := map[string]impl.Tx{"nothing": {}}
	add := func(name string, spoil func(t *impl.Tx)) {
		t := txOf(2, 3)
		spoil(&t)
		bad[name] = t
	}
	add("one In too many", func(t *impl.Tx) { t.Ins = txOf(7, 1).Ins })
	add("256 Ins", func(t *impl.Tx) { t.Ins = make([]impl.Point, 256) })
	add("first N below 0", func(t *impl.Tx) { t.Ins[0].N = -1 })
	add("N too great", func(t *impl.Tx) { t.Ins[1].N = 6 })
	add("N of 256", func(t *impl.Tx) { t.Ins[1].N = 256 })
	add("N below 0 by 256", func(t *impl.Tx) { t.Ins[1].N = -256 })
	add("no Outs", func(t *impl.Tx) { t.Outs = nil })
	add("one Out too many", func(t *impl.Tx) { t.Outs = txOf(0, 7).Outs })
	add("257 Outs", func(t *impl.Tx) { t.Outs = slices.Repeat([]int{1}, 257) })
	add("first Out of 0", func(t *impl.Tx) { t.Outs[0] = 0 })
	add("last Out of 0", func(t *impl.Tx) { t.Outs[2] = 0 })
	add("Out below 0", func(t *impl.Tx) { t.Outs[1] = -1 })
	add("least Out", func(t *impl.Tx) { t.Outs[1] = -1 << 63 })
	add("Out too great", func(t *impl.Tx) { t.Outs[1] = 1000000000001 })
	add("greatest Out", func(t *impl.Tx) { t.Outs[1] = 1<<63 - 1 })
	add("Height below 0", func(t *impl.Tx) { t.Height = -1 })
	add("Height too great", func(t *impl.Tx) { t.Height = 1000001 })
	add("Height behind four bytes", func(t *impl.Tx) { t.Height = 1 << 32 })
	return bad
}

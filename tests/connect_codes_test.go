package tests

import (
	"fmt"
	"maps"
	"math/rand"
	"slices"
	"testing"

	"loop.example/s01906/impl"
)

// trial is a block of height 7 that would be connected, unless faults are put
// into it.
type trial struct {
	store   impl.Store
	bases   []impl.Tx
	block   impl.Block
	bare    bool // no Txs
	sibling bool // the last one spends what the second one makes
	rise    int  // for Height, and that of a first one that has the same
	root    byte // changes a byte of the right root
	tail    []byte
	short   bool
	planted []plant
	broken  bool
}

// plant is a coin that a transaction would make, and is there already.
type plant struct{ tx, n int }

func newTrial(t *testing.T) *trial {
	s, bases, spend := sixBlocks(t)
	b := blockOn(stateOf(t, s), baseTx(7, 300, 1),
		spendTx([]impl.Point{outOf(bases[1], 1), outOf(bases[2], 0)}, 6000, 900),
		spendTx([]impl.Point{outOf(spend, 0)}, 350, 1, 2),
		spendTx([]impl.Point{outOf(bases[4], 0)}, 100))
	return &trial{store: s, bases: bases, block: b}
}

// copied is a trial for itself, so that faults in it are in no other.
func (x *trial) copied() *trial {
	c := *x
	c.store, c.block = deepCopy(x.store), deepCopy(x.block)
	return &c
}

// built gives the store and the bytes.
func (x *trial) built(t *testing.T) (impl.Store, []byte) {
	b := x.block
	if x.bare {
		b.Txs = nil
	}
	if x.sibling && !x.bare {
		b.Txs[3].Ins = append(b.Txs[3].Ins, outOf(b.Txs[1], 0))
	}
	if !x.bare && b.Txs[0].Height == b.Height {
		b.Txs[0].Height += x.rise
	}
	b.Height += x.rise
	ids := idsOf(b.Txs)
	b.Root = modelRoot(ids)
	b.Root[31] ^= x.root
	s := x.store
	for _, p := range x.planted {
		if p.tx < len(ids) {
			s = committed(t, s, putOf(coinKeyOf(impl.Point{Id: ids[p.tx], N: p.n}), coinBytes(1, 2, 0)))
		}
	}
	if x.broken {
		s.Super.Used++
	}
	raw := rawBlock(b)
	if x.short {
		return s, raw[:len(raw)-1]
	}
	return s, append(raw, x.tail...)
}

// fault is something for which a block has a code; rank says which of two
// faults is seen first.
type fault struct {
	name string
	code int
	rank int
	put  func(x *trial)
}

func someFaults() []fault {
	var all []fault
	add := func(name string, code int, put func(x *trial)) {
		all = append(all, fault{name, code, code, put})
	}
	all = append(all, fault{"the store is not valid", impl.NoStore, 0, func(x *trial) { x.broken = true }})
	add("a byte too many", impl.BadBytes, func(x *trial) { x.tail = []byte{0} })
	add("a byte too few", impl.BadBytes, func(x *trial) { x.short = true })
	add("another Prev", impl.BadParent, func(x *trial) { x.block.Prev[0] ^= 1 })
	add("the Prev of the start", impl.BadParent, func(x *trial) { x.block.Prev = impl.Hash{} })
	add("Height more by 1", impl.BadParent, func(x *trial) { x.rise = 1 })
	add("Height less by 1", impl.BadParent, func(x *trial) { x.rise = -1 })
	add("Height 0", impl.BadParent, func(x *trial) { x.rise = -7 })
	add("another Root", impl.BadRoot, func(x *trial) { x.root = 128 })
	add("no Txs", impl.BadShape, func(x *trial) { x.bare = true })
	add("the first one has Ins", impl.BadShape, func(x *trial) { x.block.Txs[0].Ins = []impl.Point{outOf(x.bases[1], 2)} })
	add("the first one has Height 0", impl.BadShape, func(x *trial) { x.block.Txs[0].Height = 0 })
	add("the first one has another Height", impl.BadShape, func(x *trial) { x.block.Txs[0].Height++ })
	add("another one has no Ins", impl.BadShape, func(x *trial) { x.block.Txs[2].Ins = nil })
	add("another one has the block's Height", impl.BadShape, func(x *trial) { x.block.Txs[2].Height = x.block.Height })
	add("the last one has a Height", impl.BadShape, func(x *trial) { x.block.Txs[3].Height = 1 })
	add("two Ins of one are the same", impl.BadShape, func(x *trial) {
		x.block.Txs[1].Ins = append(x.block.Txs[1].Ins, x.block.Txs[1].Ins[0])
	})
	add("two Ins of two are the same", impl.BadShape, func(x *trial) {
		x.block.Txs[3].Ins = append(x.block.Txs[3].Ins, x.block.Txs[1].Ins[1])
	})
	add("two Txs are the same", impl.BadShape, func(x *trial) { x.block.Txs = append(x.block.Txs, deepCopy(x.block.Txs[2])) })
	add("the first one comes twice", impl.BadShape, func(x *trial) { x.block.Txs = append(x.block.Txs, deepCopy(x.block.Txs[0])) })
	for i := 1; i <= 3; i++ {
		all = append(all, spendFaults(i)...)
	}
	all = append(all, fault{"a coin made in this block", impl.NoCoin, 30 + impl.NoCoin, func(x *trial) { x.sibling = true }})
	pay := func(name string, put func(x *trial)) {
		all = append(all, fault{name, impl.BadPay, 1000, put})
	}
	pay("the first one makes too much", func(x *trial) { x.block.Txs[0].Outs[1] = impl.MaxMoney })
	pay("the first coin of the first one is there", func(x *trial) { x.planted = append(x.planted, plant{0, 0}) })
	pay("the last coin of the first one is there", func(x *trial) { x.planted = append(x.planted, plant{0, 1}) })
	return all
}

// spendFaults are those of one transaction behind the first. No two that spend
// have an In alike, since that were a fault of another kind.
func spendFaults(i int) []fault {
	var all []fault
	add := func(name string, code int, put func(x *trial)) {
		all = append(all, fault{fmt.Sprintf("Tx %d: %s", i, name), code, 10*i + code, put})
	}
	spends := func(p func(x *trial) impl.Point) func(x *trial) {
		return func(x *trial) { x.block.Txs[i].Ins = append(x.block.Txs[i].Ins, p(x)) }
	}
	add("an In of another id", impl.NoCoin, spends(func(x *trial) impl.Point { return impl.Point{Id: hashOf("none"), N: i} }))
	add("an In behind the Outs", impl.NoCoin, spends(func(x *trial) impl.Point { return outOf(x.bases[1+i], 5) }))
	add("an In that is not ripe", impl.NotRipe, spends(func(x *trial) impl.Point {
		return []impl.Point{{}, outOf(x.bases[5], 0), outOf(x.bases[6], 0), outOf(x.bases[6], 1)}[i]
	}))
	add("Outs are too much", impl.BadSum, func(x *trial) { x.block.Txs[i].Outs[0] = impl.MaxMoney })
	add("its first coin is there", impl.BadSum, func(x *trial) { x.planted = append(x.planted, plant{i, 0}) })
	if i < 3 {
		add("its second coin is there", impl.BadSum, func(x *trial) { x.planted = append(x.planted, plant{i, 1}) })
	}
	return all
}

func checkTrial(t *testing.T, name string, x *trial, want int) {
	t.Helper()
	s, raw := x.built(t)
	if want != impl.NoStore {
		checkConnect(t, name, s, raw, want)
		return
	}
	before, bytesBefore := deepCopy(s), deepCopy(raw)
	if changes, code := impl.Connect(s, raw); code != want || len(changes) != 0 {
		t.Errorf("%s: code %d, %s", name, code, told(changes))
	}
	checkKept(t, name, s, before)
	checkKept(t, name, raw, bytesBefore)
}

// Promise 10: each code alone.
func TestConnectCodesAlone(t *testing.T) {
	good := newTrial(t)
	checkTrial(t, "no fault", good.copied(), 0)
	seen := map[int]int{}
	for _, f := range someFaults() {
		x := good.copied()
		f.put(x)
		checkTrial(t, f.name, x, f.code)
		seen[f.code]++
	}
	if len(seen) != 9 {
		t.Errorf("not all codes: %v", seen)
	}
	raw := rawBlock(good.block)
	for _, wrong := range [][]byte{nil, {}, []byte("x"), raw[:68], raw[:69], make([]byte, 69), slices.Concat(raw, raw)} {
		if code := modelCode(stateOf(t, good.store), wrong); code != impl.BadBytes && len(wrong) != 69 {
			t.Fatalf("the model has %d", code)
		}
		checkConnect(t, "bytes", good.store, wrong, modelCode(stateOf(t, good.store), wrong))
	}
}

// Promise 10: each two at once give the first that applies. The later fault is
// put in first, so that it cannot undo the one that is to be seen.
func TestConnectCodesInPairs(t *testing.T) {
	good := newTrial(t)
	all := someFaults()
	for i, f := range all {
		for _, g := range all[i+1:] {
			first, second := f, g
			if f.rank == g.rank {
				continue
			}
			if g.rank < f.rank {
				first, second = g, f
			}
			x := good.copied()
			second.put(x)
			first.put(x)
			checkTrial(t, first.name+", and "+second.name, x, first.code)
		}
	}
}

// Promise 10: one fault of each rank at once, and then without the first ranks.
func TestConnectManyFaults(t *testing.T) {
	good := newTrial(t)
	r := rand.New(rand.NewSource(60))
	ranks := map[int][]fault{}
	for _, f := range someFaults() {
		ranks[f.rank] = append(ranks[f.rank], f)
	}
	order := slices.Sorted(maps.Keys(ranks))
	for range 10 {
		for from := range order {
			x := good.copied()
			var first fault
			for _, rank := range slices.Backward(order[from:]) {
				first = ranks[rank][r.Intn(len(ranks[rank]))]
				first.put(x)
			}
			checkTrial(t, "all from "+first.name, x, first.code)
		}
	}
}

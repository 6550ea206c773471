package tests

import (
	"encoding/binary"
	"fmt"
	"maps"
	"slices"
	"strings"
	"testing"

	"loop.example/s01906/impl"
)

// What stands in the store, laid out by hand.

func heightKeyOf(mark string, height int) string {
	return string(binary.BigEndian.AppendUint32([]byte(mark), uint32(height)))
}

func countKeyOf(mark string, height, count int) string {
	return heightKeyOf(mark, height) + string([]byte{byte(count)})
}

func pointVal(p impl.Point) string {
	return string(p.Id[:]) + string([]byte{byte(p.N)})
}

func coinKeyOf(p impl.Point) string {
	return "c" + pointVal(p)
}

// coinBytes lays any coin out, valid or not.
func coinBytes(value uint64, height uint32, base byte) string {
	b := binary.LittleEndian.AppendUint64(nil, value)
	return string(append(binary.LittleEndian.AppendUint32(b, height), base))
}

func coinVal(c impl.Coin) string {
	base := byte(0)
	if c.Base {
		base = 1
	}
	return coinBytes(uint64(c.Value), uint32(c.Height), base)
}

func tipVal(height int, id impl.Hash) string {
	return string(binary.LittleEndian.AppendUint32(nil, uint32(height))) + string(id[:])
}

// chainState is a tip and its coins. A chain of them needs no undo records: the
// state before is kept.
type chainState struct {
	height int
	tip    impl.Hash
	coins  map[impl.Point]impl.Coin
}

func sameState(a, b chainState) bool {
	return a.height == b.height && a.tip == b.tip && maps.Equal(a.coins, b.coins)
}

func (c chainState) worth() int {
	sum := 0
	for _, coin := range c.coins {
		sum += coin.Value
	}
	return sum
}

// points are those of the coins, in the order of their keys.
func (c chainState) points() []impl.Point {
	return slices.SortedFunc(maps.Keys(c.coins), func(a, b impl.Point) int {
		return strings.Compare(coinKeyOf(a), coinKeyOf(b))
	})
}

// stateOf reads a store, and holds CoinOf against Coins on the way.
func stateOf(t *testing.T, s impl.Store) chainState {
	t.Helper()
	height, tip := impl.Tip(s)
	points, coins := impl.Coins(s)
	if len(points) != len(coins) {
		t.Fatalf("%d points, %d coins", len(points), len(coins))
	}
	c := chainState{height: height, tip: tip, coins: map[impl.Point]impl.Coin{}}
	for i, p := range points {
		c.coins[p] = coins[i]
	}
	if !slices.Equal(points, c.points()) {
		t.Fatalf("the points are not in order: %v", points)
	}
	for i := 0; i < len(points); i += 1 + len(points)/4 {
		if coin, ok := impl.CoinOf(s, points[i]); !ok || coin != coins[i] {
			t.Fatalf("CoinOf %v: %v %v, not %v", points[i], coin, ok, coins[i])
		}
	}
	return c
}

func modelSubsidy(height int) int {
	subsidy := 5000
	for h := 3; h <= height && subsidy > 0; h += 3 {
		subsidy /= 2
	}
	return subsidy
}

func sumOf(outs []int) int {
	sum := 0
	for _, v := range outs {
		sum += v
	}
	return sum
}

func idsOf(txs []impl.Tx) []impl.Hash {
	var ids []impl.Hash
	for _, x := range txs {
		ids = append(ids, twice(rawTx(x)))
	}
	return ids
}

// blockOn is the block on a tip with these transactions, its root made right.
func blockOn(c chainState, txs ...impl.Tx) impl.Block {
	return impl.Block{Prev: c.tip, Root: modelRoot(idsOf(txs)), Height: c.height + 1, Txs: txs}
}

func baseTx(height int, outs ...int) impl.Tx {
	return impl.Tx{Outs: outs, Height: height}
}

func spendTx(ins []impl.Point, outs ...int) impl.Tx {
	return impl.Tx{Ins: ins, Outs: outs}
}

func outOf(x impl.Tx, n int) impl.Point {
	return impl.Point{Id: twice(rawTx(x)), N: n}
}

func modelShape(b impl.Block, ids []impl.Hash) bool {
	if len(b.Txs) == 0 || len(b.Txs[0].Ins) > 0 || b.Txs[0].Height != b.Height {
		return false
	}
	var ins []impl.Point
	for i, x := range b.Txs {
		if i > 0 && (len(x.Ins) == 0 || x.Height != 0) {
			return false
		}
		for _, p := range x.Ins {
			if slices.Contains(ins, p) {
				return false
			}
			ins = append(ins, p)
		}
		if slices.Index(ids, ids[i]) != i {
			return false
		}
	}
	return true
}

// modelSpend gives the code of a transaction behind the first.
func modelSpend(c chainState, b impl.Block, i int, ids []impl.Hash) int {
	sum, young := 0, false
	for _, p := range b.Txs[i].Ins {
		coin, ok := c.coins[p]
		if !ok {
			return impl.NoCoin
		}
		sum += coin.Value
		young = young || coin.Base && b.Height-coin.Height < 3
	}
	if young {
		return impl.NotRipe
	}
	if sumOf(b.Txs[i].Outs) > sum || modelThere(c, b, i, ids) {
		return impl.BadSum
	}
	return 0
}

func modelThere(c chainState, b impl.Block, i int, ids []impl.Hash) bool {
	for n := range b.Txs[i].Outs {
		if _, ok := c.coins[impl.Point{Id: ids[i], N: n}]; ok {
			return true
		}
	}
	return false
}

func modelCode(c chainState, raw []byte) int {
	b, good := modelBlock(raw)
	if !good {
		return impl.BadBytes
	}
	if b.Prev != c.tip || b.Height != c.height+1 {
		return impl.BadParent
	}
	ids := idsOf(b.Txs)
	if b.Root != modelRoot(ids) {
		return impl.BadRoot
	}
	if !modelShape(b, ids) {
		return impl.BadShape
	}
	made, had := 0, modelSubsidy(b.Height)
	for i, x := range b.Txs {
		if i > 0 {
			if code := modelSpend(c, b, i, ids); code != 0 {
				return code
			}
		}
		made += sumOf(x.Outs)
		for _, p := range x.Ins {
			had += c.coins[p].Value
		}
	}
	if made > had || modelThere(c, b, 0, ids) {
		return impl.BadPay
	}
	return 0
}

// modelConnect gives what Connect must, and the state behind it.
func modelConnect(c chainState, raw []byte) ([]impl.Change, chainState, int) {
	if code := modelCode(c, raw); code != 0 {
		return nil, c, code
	}
	b, _ := modelBlock(raw)
	next := chainState{height: b.Height, tip: twice(rawHead(b)), coins: maps.Clone(c.coins)}
	var changes []impl.Change
	spent := 0
	for i, x := range b.Txs {
		for _, p := range x.Ins {
			changes = append(changes, delOf(coinKeyOf(p)), putOf(countKeyOf("u", b.Height, spent), pointVal(p)+coinVal(c.coins[p])))
			delete(next.coins, p)
			spent++
		}
		id := twice(rawTx(x))
		changes = append(changes, putOf(countKeyOf("n", b.Height, i), string(id[:])+string([]byte{byte(len(x.Outs))})))
		for n, v := range x.Outs {
			p, coin := impl.Point{Id: id, N: n}, impl.Coin{Value: v, Height: b.Height, Base: i == 0}
			changes = append(changes, putOf(coinKeyOf(p), coinVal(coin)))
			next.coins[p] = coin
		}
	}
	changes = append(changes, putOf(heightKeyOf("b", b.Height), string(b.Prev[:])), putOf("t", tipVal(b.Height, next.tip)))
	return changes, next, 0
}

// told gives changes in a form that can be read.
func told(changes []impl.Change) string {
	var parts []string
	for _, c := range changes {
		part := fmt.Sprintf("%s:%x=%x", c.Key[:1], c.Key[1:], c.Val)
		if c.Del {
			part = fmt.Sprintf("%s:%x-", c.Key[:1], c.Key[1:])
		}
		parts = append(parts, part)
	}
	return strings.Join(parts, " ")
}

// checkConnect fails unless Connect gives what the model does, of any bytes.
func checkConnect(t *testing.T, name string, s impl.Store, raw []byte, want int) []impl.Change {
	t.Helper()
	before, bytesBefore := deepCopy(s), deepCopy(raw)
	changes, code := impl.Connect(s, raw)
	expected, _, modelled := modelConnect(stateOf(t, s), raw)
	if modelled != want {
		t.Fatalf("%s: the model has the code %d, not %d", name, modelled, want)
	}
	if code != want || !slices.Equal(changes, expected) {
		t.Fatalf("%s: Connect: code %d, not %d; %s, not %s", name, code, want, told(changes), told(expected))
	}
	checkKept(t, name+": Connect", s, before)
	checkKept(t, name+": Connect", raw, bytesBefore)
	checkApart(t, name+": Connect", []any{changes}, s, raw)
	return changes
}

// grown connects blocks that must be taken.
func grown(t *testing.T, s impl.Store, blocks ...impl.Block) impl.Store {
	t.Helper()
	for _, b := range blocks {
		_, want, _ := modelConnect(stateOf(t, s), rawBlock(b))
		s = committed(t, s, checkConnect(t, "grown", s, rawBlock(b), 0)...)
		if !sameState(stateOf(t, s), want) {
			t.Fatalf("height %d: the coins are others", b.Height)
		}
	}
	return s
}

// sixBlocks is a store of height 6, and transactions of its blocks: the base of
// each height (none at 0), and one that spent the first Out of the base of
// height 1. On height 7 the bases of 1 to 4 are ripe.
func sixBlocks(t *testing.T) (impl.Store, []impl.Tx, impl.Tx) {
	t.Helper()
	bases := []impl.Tx{{}, baseTx(1, 1000, 2000, 1500, 500), baseTx(2, 5000), baseTx(3, 2500), baseTx(4, 100), baseTx(5, 7, 1), baseTx(6, 8, 9)}
	spend := spendTx([]impl.Point{outOf(bases[1], 0)}, 400, 500)
	s := formatted(t, 120)
	for h := 1; h <= 6; h++ {
		txs := []impl.Tx{bases[h]}
		if h == 4 {
			txs = append(txs, spend)
		}
		s = grown(t, s, blockOn(stateOf(t, s), txs...))
	}
	return s, bases, spend
}

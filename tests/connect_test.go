package tests

import (
	"fmt"
	"math/rand"
	"slices"
	"strings"
	"testing"

	"loop.example/s01906/impl"
)

// marks tells changes by the first bytes of their keys, a Del with a minus behind.
func marks(changes []impl.Change) string {
	var b strings.Builder
	for _, c := range changes {
		b.WriteString(c.Key[:1])
		if c.Del {
			b.WriteString("-")
		}
	}
	return b.String()
}

// The changes of a block, each written out.
func TestConnectChanges(t *testing.T) {
	s, bases, spend := sixBlocks(t)
	c := stateOf(t, s)
	base := baseTx(7, 10, 20)
	one := spendTx([]impl.Point{outOf(bases[1], 1), outOf(spend, 1)}, 100, 200, 300)
	two := spendTx([]impl.Point{outOf(bases[4], 0)}, 99)
	b := blockOn(c, base, one, two)
	changes := checkConnect(t, "three Txs", s, rawBlock(b), 0)
	id := func(x impl.Tx) string {
		h := twice(rawTx(x))
		return string(h[:])
	}
	tip, next := c.tip, twice(rawHead(b))
	coin := func(x impl.Tx, n, value int, base byte) impl.Change {
		return putOf("c"+id(x)+string([]byte{byte(n)}), coinBytes(uint64(value), 7, base))
	}
	want := []impl.Change{
		putOf("n\x00\x00\x00\x07\x00", id(base)+"\x02"),
		coin(base, 0, 10, 1), coin(base, 1, 20, 1),
		delOf("c" + id(bases[1]) + "\x01"),
		putOf("u\x00\x00\x00\x07\x00", id(bases[1])+"\x01"+"\xd0\x07\x00\x00\x00\x00\x00\x00"+"\x01\x00\x00\x00"+"\x01"),
		delOf("c" + id(spend) + "\x01"),
		putOf("u\x00\x00\x00\x07\x01", id(spend)+"\x01"+"\xf4\x01\x00\x00\x00\x00\x00\x00"+"\x04\x00\x00\x00"+"\x00"),
		putOf("n\x00\x00\x00\x07\x01", id(one)+"\x03"),
		coin(one, 0, 100, 0), coin(one, 1, 200, 0), coin(one, 2, 300, 0),
		delOf("c" + id(bases[4]) + "\x00"),
		putOf("u\x00\x00\x00\x07\x02", id(bases[4])+"\x00"+"\x64\x00\x00\x00\x00\x00\x00\x00"+"\x04\x00\x00\x00"+"\x01"),
		putOf("n\x00\x00\x00\x07\x02", id(two)+"\x01"),
		coin(two, 0, 99, 0),
		putOf("b\x00\x00\x00\x07", string(tip[:])),
		putOf("t", "\x07\x00\x00\x00"+string(next[:])),
	}
	if !slices.Equal(changes, want) {
		t.Errorf("%s, not %s", told(changes), told(want))
	}
	if got := marks(changes); got != "nccc-uc-uncccc-uncbt" {
		t.Errorf("%s", got)
	}
	grown(t, s, b)
}

func TestConnectFirstBlock(t *testing.T) {
	s := formatted(t, 20)
	start := stateOf(t, s)
	changes := checkConnect(t, "one Out", s, rawBlock(blockOn(start, baseTx(1, 5000))), 0)
	if marks(changes) != "ncbt" || changes[2] != putOf("b\x00\x00\x00\x01", string(make([]byte, 32))) {
		t.Errorf("%s", told(changes))
	}
	checkConnect(t, "six Outs", s, rawBlock(blockOn(start, baseTx(1, 1, 2, 3, 4, 5, 6))), 0)
	checkConnect(t, "more than the subsidy", s, rawBlock(blockOn(start, baseTx(1, 5001))), impl.BadPay)
	checkConnect(t, "more than the subsidy in two", s, rawBlock(blockOn(start, baseTx(1, 2500, 2501))), impl.BadPay)
	checkConnect(t, "no Txs", s, rawBlock(blockOn(start)), impl.BadShape)
	zero := impl.Block{Root: blockOn(start, baseTx(0, 1)).Root, Txs: []impl.Tx{baseTx(0, 1)}}
	checkConnect(t, "height 0", s, rawBlock(zero), impl.BadParent)
	checkConnect(t, "a parent", s, rawBlock(blockOn(chainState{tip: hashOf("tip")}, baseTx(1, 1))), impl.BadParent)
	checkConnect(t, "nothing to spend", s, rawBlock(blockOn(start, baseTx(1, 1), spendTx([]impl.Point{{}}, 1))), impl.NoCoin)
}

// The greatest block: twelve Txs, of which eleven have six Ins and six Outs.
func TestConnectGreatestBlock(t *testing.T) {
	s := formatted(t, 400)
	for h := 1; h <= 11; h++ {
		s = grown(t, s, blockOn(stateOf(t, s), baseTx(h, 1, 1, 1, 1, 1, 1)))
	}
	for h := 12; h <= 13; h++ {
		s = grown(t, s, blockOn(stateOf(t, s), baseTx(h, 5)))
	}
	c := stateOf(t, s)
	txs := []impl.Tx{baseTx(14, 1, 2, 3, 4, 5, 6)}
	ones := slices.DeleteFunc(c.points(), func(p impl.Point) bool { return c.coins[p].Value != 1 })
	for ins := range slices.Chunk(ones, 6) {
		txs = append(txs, spendTx(ins, 1, 1, 1, 1, 1, 1))
	}
	b := blockOn(c, txs...)
	changes := checkConnect(t, "the greatest block", s, rawBlock(b), 0)
	if len(txs) != 12 || len(changes) != 66*2+12+72+2 || changes[len(changes)-10].Key != countKeyOf("u", 14, 65) {
		t.Fatalf("%d Txs, %d changes", len(txs), len(changes))
	}
	before := entriesOf(t, s.Disk, s.Super.Root)
	next := grown(t, s, b)
	undo, code := impl.Disconnect(next)
	if code != 0 || len(undo) != 72+12+66*2+2 {
		t.Fatalf("Disconnect: code %d, %d changes", code, len(undo))
	}
	back := committed(t, next, undo...)
	if !slices.Equal(entriesOf(t, back.Disk, back.Super.Root), before) {
		t.Errorf("the entries are others behind Disconnect")
	}
}

// A coin of a Base can be spent from the height on that is greater by Ripe;
// any other coin at once.
func TestConnectRipe(t *testing.T) {
	s := formatted(t, 120)
	one := baseTx(1, 100, 200, 300)
	s = grown(t, s, blockOn(stateOf(t, s), one))
	for h := 2; h <= 6; h++ {
		c := stateOf(t, s)
		want, tooMuch := impl.NotRipe, impl.NotRipe
		if h >= 4 {
			want, tooMuch = 0, impl.BadSum
		}
		checkConnect(t, fmt.Sprintf("height %d", h), s, rawBlock(blockOn(c, baseTx(h, 1), spendTx([]impl.Point{outOf(one, 1)}, 5))), want)
		checkConnect(t, fmt.Sprintf("height %d, too much too", h), s, rawBlock(blockOn(c, baseTx(h, 1), spendTx([]impl.Point{outOf(one, 1)}, 500))), tooMuch)
		s = grown(t, s, blockOn(c, baseTx(h, h)))
	}
	spend := spendTx([]impl.Point{outOf(one, 0)}, 60, 40)
	s = grown(t, s, blockOn(stateOf(t, s), baseTx(7, 7), spend))
	again := spendTx([]impl.Point{outOf(spend, 1), outOf(spend, 0)}, 100)
	s = grown(t, s, blockOn(stateOf(t, s), baseTx(8, 8), again))
	if c, ok := impl.CoinOf(s, outOf(again, 0)); !ok || c != (impl.Coin{Value: 100, Height: 8}) {
		t.Errorf("%v %v", c, ok)
	}
	for height := range uint32(14) {
		for base := range byte(2) {
			p := impl.Point{Id: hashOf("by hand"), N: 1}
			held := committed(t, s, putOf(coinKeyOf(p), coinBytes(50, height, base)))
			want := 0
			if base == 1 && height+3 > 9 {
				want = impl.NotRipe
			}
			raw := rawBlock(blockOn(stateOf(t, held), baseTx(9, 1), spendTx([]impl.Point{p}, 50)))
			checkConnect(t, fmt.Sprintf("a coin of height %d, %d", height, base), held, raw, want)
		}
	}
}

// Outs just as much as the coins, and one more; the first one just the subsidy
// and what is left over, and one more.
func TestConnectSums(t *testing.T) {
	s, bases, spend := sixBlocks(t)
	c := stateOf(t, s)
	ins := []impl.Point{outOf(bases[1], 1), outOf(spend, 0)}
	connect := func(name string, want int, txs ...impl.Tx) {
		t.Helper()
		checkConnect(t, name, s, rawBlock(blockOn(c, txs...)), want)
	}
	connect("just the coins", 0, baseTx(7, 1), spendTx(ins, 2000, 400))
	connect("just the coins in one Out", 0, baseTx(7, 1), spendTx(ins, 2400))
	connect("one more", impl.BadSum, baseTx(7, 1), spendTx(ins, 2000, 401))
	connect("one more in one Out", impl.BadSum, baseTx(7, 1), spendTx(ins, 2401))
	connect("much more", impl.BadSum, baseTx(7, 1), spendTx(ins, slices.Repeat([]int{impl.MaxMoney}, 6)...))
	connect("what another one leaves over is not its own", impl.BadSum, baseTx(7, 1), spendTx(ins[:1], 1), spendTx(ins[1:], 401))
	connect("just the subsidy", 0, baseTx(7, 1250))
	connect("just the subsidy in Outs", 0, baseTx(7, 1000, 249, 1))
	connect("one more than the subsidy", impl.BadPay, baseTx(7, 1251))
	connect("one more in Outs", impl.BadPay, baseTx(7, 1000, 249, 2))
	connect("nothing is left over", 0, baseTx(7, 1250), spendTx(ins, 2400))
	connect("nothing is left over, one more", impl.BadPay, baseTx(7, 1251), spendTx(ins, 2400))
	connect("what is left over", 0, baseTx(7, 1250+2399), spendTx(ins, 1))
	connect("what is left over, one more", impl.BadPay, baseTx(7, 1250+2400), spendTx(ins, 1))
	connect("what two leave over", 0, baseTx(7, 1250+1999+300), spendTx(ins[:1], 1), spendTx(ins[1:], 100))
	connect("what two leave over, one more", impl.BadPay, baseTx(7, 1250+1999+301), spendTx(ins[:1], 1), spendTx(ins[1:], 100))

	rich := s
	var many []impl.Point
	for n := range 6 {
		p := impl.Point{Id: hashOf("rich"), N: n}
		many = append(many, p)
		rich = committed(t, rich, putOf(coinKeyOf(p), coinBytes(impl.MaxMoney, 2, 1)))
	}
	full := slices.Repeat([]int{impl.MaxMoney}, 6)
	checkConnect(t, "all the money", rich, rawBlock(blockOn(c, baseTx(7, 1250), spendTx(many, full...))), 0)
	checkConnect(t, "all the money for the first one", rich, rawBlock(blockOn(c, baseTx(7, full[:5]...), spendTx(many, 1))), 0)
	checkConnect(t, "all the money for both", rich, rawBlock(blockOn(c, baseTx(7, full...), spendTx(many, full...))), impl.BadPay)
	checkConnect(t, "all the money for five coins", rich, rawBlock(blockOn(c, baseTx(7, 1), spendTx(many[:5], full...))), impl.BadSum)
}

// The subsidy of the block's own height counts.
func TestConnectSubsidies(t *testing.T) {
	s := formatted(t, 200)
	for h := 1; h <= 45; h++ {
		c, most := stateOf(t, s), modelSubsidy(h)
		checkConnect(t, fmt.Sprintf("height %d", h), s, rawBlock(blockOn(c, baseTx(h, most+1))), impl.BadPay)
		if most == 0 {
			break
		}
		s = grown(t, s, blockOn(c, baseTx(h, most)))
	}
	c := stateOf(t, s)
	if c.height != 38 {
		t.Fatalf("the subsidy ends at %d", c.height)
	}
	p := impl.Point{}
	for q, coin := range c.coins {
		if coin.Height == 1 {
			p = q
		}
	}
	checkConnect(t, "without a subsidy", s, rawBlock(blockOn(c, baseTx(39, 1), spendTx([]impl.Point{p}, 4999))), 0)
	checkConnect(t, "without a subsidy, one more", s, rawBlock(blockOn(c, baseTx(39, 2), spendTx([]impl.Point{p}, 4999))), impl.BadPay)
}

// A coin is there already only when it is one, and one of the Outs.
func TestConnectCoinIsThere(t *testing.T) {
	s, bases, _ := sixBlocks(t)
	base, spend := baseTx(7, 5, 6), spendTx([]impl.Point{outOf(bases[2], 0)}, 1, 2, 3)
	raw := rawBlock(blockOn(stateOf(t, s), base, spend))
	for _, x := range []struct {
		tx   impl.Tx
		code int
	}{{base, impl.BadPay}, {spend, impl.BadSum}} {
		for n := range 8 {
			held := committed(t, s, putOf(coinKeyOf(outOf(x.tx, n)), coinBytes(1, 9, 1)))
			want := 0
			if n < len(x.tx.Outs) {
				want = x.code
			}
			checkConnect(t, fmt.Sprintf("coin %d", n), held, raw, want)
			for _, val := range []string{"", coinBytes(0, 1, 0), coinBytes(1, 1, 2), coinBytes(1, 1, 0) + "x"} {
				checkConnect(t, "no coin", committed(t, s, putOf(coinKeyOf(outOf(x.tx, n)), val)), raw, 0)
			}
		}
	}
	held := committed(t, s, putOf(coinKeyOf(outOf(base, 0)), coinBytes(1, 1, 0)), putOf(coinKeyOf(outOf(spend, 2)), coinBytes(1, 1, 0)))
	checkConnect(t, "both", held, raw, impl.BadSum)
	for _, val := range []string{"", coinBytes(0, 1, 0), coinBytes(1, 1, 2), coinBytes(impl.MaxMoney+1, 1, 0), coinBytes(1, impl.MaxHeight+1, 0), coinBytes(5000, 2, 1) + "x"} {
		checkConnect(t, "a value that is none of a coin", committed(t, s, putOf(coinKeyOf(outOf(bases[2], 0)), val)), raw, impl.NoCoin)
	}
}

// A root that is that of other ids, or of these in another order.
func TestConnectRoots(t *testing.T) {
	s, bases, spend := sixBlocks(t)
	c := stateOf(t, s)
	txs := []impl.Tx{baseTx(7, 1), spendTx([]impl.Point{outOf(bases[2], 0)}, 1), spendTx([]impl.Point{outOf(spend, 0)}, 1)}
	good := blockOn(c, txs...)
	ids := idsOf(txs)
	checkConnect(t, "right", s, rawBlock(good), 0)
	for i, root := range []impl.Hash{{}, ids[0], modelRoot(ids[:2]), modelRoot([]impl.Hash{ids[0], ids[2], ids[1]}), twice(rawHead(good)), c.tip} {
		b := good
		b.Root = root
		checkConnect(t, fmt.Sprintf("root %d", i), s, rawBlock(b), impl.BadRoot)
	}
	for i := range good.Root {
		b := good
		b.Root[i] ^= 1 << (i % 8)
		checkConnect(t, "a bit of the root", s, rawBlock(b), impl.BadRoot)
		b = good
		b.Prev[i] ^= 1 << (i % 8)
		checkConnect(t, "a bit of the parent", s, rawBlock(b), impl.BadParent)
	}
	four := blockOn(c, append(slices.Clone(txs), txs[2])...)
	if four.Root != good.Root {
		t.Fatal("a last one that comes twice has another root")
	}
	checkConnect(t, "a last one twice under the same root", s, rawBlock(four), impl.BadShape)
	bare := good
	bare.Txs = nil
	checkConnect(t, "a root of nothing", s, rawBlock(bare), impl.BadRoot)
}

// At the end of all heights there is no block to connect.
func TestConnectAtGreatHeights(t *testing.T) {
	for _, h := range []int{impl.MaxHeight - 1, impl.MaxHeight, impl.MaxHeight + 1, 1<<32 - 1} {
		c := chainState{height: h, tip: hashOf("tip")}
		s := committed(t, formatted(t, 20), putOf("t", tipVal(h, c.tip)), putOf(coinKeyOf(impl.Point{}), coinBytes(9, impl.MaxHeight-3, 1)))
		b := impl.Block{Prev: c.tip, Height: h + 1, Txs: []impl.Tx{baseTx(h+1, 1), spendTx([]impl.Point{{}}, 8)}}
		b.Root = modelRoot(idsOf(b.Txs))
		want := impl.BadBytes
		if h == 1<<32-1 {
			want = impl.BadParent // its height in four bytes is 0
		}
		if h == impl.MaxHeight-1 {
			want = 0
		}
		checkConnect(t, fmt.Sprintf("height %d", h), s, rawBlock(b), want)
	}
}

// Promise 10, on random chains: the code is the model's, and what is connected
// makes no more than the subsidy.
func TestConnectRandomBlocks(t *testing.T) {
	r := rand.New(rand.NewSource(61))
	seen := map[int]int{}
	for range 3 {
		s := formatted(t, 150)
		for range 15 {
			c := stateOf(t, s)
			for range 25 {
				raw := spoilt(r, c, randomNext(r, c))
				code := modelCode(c, raw)
				checkConnect(t, "spoilt", s, raw, code)
				seen[code]++
			}
			s = grown(t, s, randomNext(r, c))
			next := stateOf(t, s)
			if next.worth()-c.worth() > modelSubsidy(next.height) {
				t.Fatalf("height %d: %d and then %d", next.height, c.worth(), next.worth())
			}
		}
	}
	for _, code := range numbers(0, 8) {
		if seen[code] < 10 {
			t.Errorf("code %d was seen %d times", code, seen[code])
		}
	}
}

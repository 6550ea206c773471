package tests

import (
	"fmt"
	"math"
	"slices"
	"strings"
	"testing"

	"loop.example/s01906/impl"
)

func checkTip(t *testing.T, name string, s impl.Store, height int, id impl.Hash) {
	t.Helper()
	before := deepCopy(s)
	if h, tip := impl.Tip(s); h != height || tip != id {
		t.Errorf("%s: Tip: %d %x, not %d %x", name, h, tip, height, id)
	}
	checkKept(t, name+": Tip", s, before)
}

func TestTipOfChain(t *testing.T) {
	s := formatted(t, 40)
	checkTip(t, "at the start", s, 0, impl.Hash{})
	for h := 1; h <= 5; h++ {
		b := blockOn(stateOf(t, s), baseTx(h, h))
		s = grown(t, s, b)
		checkTip(t, fmt.Sprintf("height %d", h), s, h, twice(rawHead(b)))
	}
	for h := 5; h >= 1; h-- {
		checkTip(t, "on the way back", s, h, stateOf(t, s).tip)
		changes, _ := impl.Disconnect(s)
		s = committed(t, s, changes...)
	}
	checkTip(t, "at the start again", s, 0, impl.Hash{})
}

func TestTipValues(t *testing.T) {
	id := hashOf("tip")
	empty := committed(t, formatted(t, 20), putOf("s", tipVal(5, id)), putOf("t\x00", tipVal(6, id)), putOf("T", tipVal(7, id)))
	checkTip(t, "no key t", empty, 0, impl.Hash{})
	for _, size := range []int{0, 1, 4, 32, 35, 37, 40, 70} {
		val := (tipVal(3, id) + strings.Repeat("x", 40))[:size]
		checkTip(t, fmt.Sprintf("%d bytes", size), committed(t, empty, putOf("t", val)), 0, impl.Hash{})
	}
	for _, h := range []int{0, 1, 255, 256, 67305985, impl.MaxHeight, impl.MaxHeight + 1, 1 << 31, 1<<32 - 1} {
		checkTip(t, fmt.Sprintf("height %d", h), committed(t, empty, putOf("t", tipVal(h, id))), h, id)
	}
	checkTip(t, "an id of zeros", committed(t, empty, putOf("t", tipVal(9, impl.Hash{}))), 9, impl.Hash{})
}

func checkCoin(t *testing.T, name string, s impl.Store, p impl.Point, want impl.Coin, there bool) {
	t.Helper()
	before := deepCopy(s)
	if c, ok := impl.CoinOf(s, p); c != want || ok != there {
		t.Errorf("%s: CoinOf %d: %v %v, not %v %v", name, p.N, c, ok, want, there)
	}
	checkKept(t, name+": CoinOf", s, before)
}

// checkCoins holds the lists of Coins against those wanted, as they stand.
func checkCoins(t *testing.T, name string, s impl.Store, points []impl.Point, coins []impl.Coin) {
	t.Helper()
	before := deepCopy(s)
	gotPoints, gotCoins := impl.Coins(s)
	if !slices.Equal(gotPoints, points) || !slices.Equal(gotCoins, coins) {
		t.Errorf("%s: Coins: %v %v, not %v %v", name, gotPoints, gotCoins, points, coins)
	}
	checkKept(t, name+": Coins", s, before)
	checkApart(t, name+": Coins", []any{gotPoints, gotCoins}, s)
}

// coinValues are values at the edges of what is one of a coin.
var coinValues = []struct {
	val  string
	coin impl.Coin
	ok   bool
}{
	{coinBytes(1, 0, 0), impl.Coin{Value: 1}, true},
	{coinBytes(1, 0, 1), impl.Coin{Value: 1, Base: true}, true},
	{coinBytes(0x0403020100, 0x030201, 1), impl.Coin{Value: 0x0403020100, Height: 0x030201, Base: true}, true},
	{coinBytes(1000000000000, 1000000, 0), impl.Coin{Value: impl.MaxMoney, Height: impl.MaxHeight}, true},
	{coinBytes(999999999999, 999999, 1), impl.Coin{Value: impl.MaxMoney - 1, Height: impl.MaxHeight - 1, Base: true}, true},
	{coinBytes(0, 5, 0), impl.Coin{}, false},
	{coinBytes(1000000000001, 5, 0), impl.Coin{}, false},
	{coinBytes(1<<63, 5, 0), impl.Coin{}, false},
	{coinBytes(1<<63+5, 5, 0), impl.Coin{}, false},
	{coinBytes(1<<64-1, 5, 0), impl.Coin{}, false},
	{coinBytes(5, 1000001, 0), impl.Coin{}, false},
	{coinBytes(5, 1<<31, 0), impl.Coin{}, false},
	{coinBytes(5, 1<<32-1, 0), impl.Coin{}, false},
	{coinBytes(5, 5, 2), impl.Coin{}, false},
	{coinBytes(5, 5, 3), impl.Coin{}, false},
	{coinBytes(5, 5, 128), impl.Coin{}, false},
	{coinBytes(5, 5, 255), impl.Coin{}, false},
	{"", impl.Coin{}, false},
	{"\x05", impl.Coin{}, false},
	{coinBytes(5, 5, 0)[:12], impl.Coin{}, false},
	{coinBytes(5, 5, 0)[1:], impl.Coin{}, false},
	{coinBytes(5, 5, 0) + "\x00", impl.Coin{}, false},
	{coinBytes(5, 5, 0) + coinBytes(5, 5, 0), impl.Coin{}, false},
}

func TestCoinValues(t *testing.T) {
	p := impl.Point{Id: hashOf("coin"), N: 4}
	for i, c := range coinValues {
		s := committed(t, formatted(t, 20), putOf(coinKeyOf(p), c.val))
		checkCoin(t, fmt.Sprintf("value %d", i), s, p, c.coin, c.ok)
		if c.ok {
			checkCoins(t, fmt.Sprintf("value %d", i), s, []impl.Point{p}, []impl.Coin{c.coin})
		} else {
			checkCoins(t, fmt.Sprintf("value %d", i), s, nil, nil)
		}
	}
	s := formatted(t, 40)
	var points []impl.Point
	var coins []impl.Coin
	for i, c := range coinValues {
		p := impl.Point{Id: hashOf("coin"), N: i}
		s = committed(t, s, putOf(coinKeyOf(p), c.val))
		if c.ok {
			points, coins = append(points, p), append(coins, c.coin)
		}
	}
	checkCoins(t, "all values in one store", s, points, coins)
}

// A number N that does not fit one byte is not taken for another one.
func TestPointsOfCoins(t *testing.T) {
	id := hashOf("coin")
	s := formatted(t, 40)
	for _, n := range []int{0, 1, 254, 255} {
		s = committed(t, s, putOf(coinKeyOf(impl.Point{Id: id, N: n}), coinBytes(uint64(n+1), 7, 0)))
	}
	for _, n := range []int{0, 1, 254, 255} {
		checkCoin(t, "there", s, impl.Point{Id: id, N: n}, impl.Coin{Value: n + 1, Height: 7}, true)
	}
	for _, n := range []int{math.MinInt, -256, -255, -2, -1, 2, 253, 256, 257, 511, 512, 1 << 32, math.MaxInt} {
		checkCoin(t, "not there", s, impl.Point{Id: id, N: n}, impl.Coin{}, false)
	}
	for i := range id {
		other := id
		other[i] ^= 1
		checkCoin(t, "another id", s, impl.Point{Id: other}, impl.Coin{}, false)
	}
	checkCoin(t, "no id", s, impl.Point{}, impl.Coin{}, false)
	checkCoin(t, "an empty store", formatted(t, 8), impl.Point{Id: id}, impl.Coin{}, false)
}

// Only keys with c and 34 bytes are those of coins; keys around them are not.
func TestKeysOfCoins(t *testing.T) {
	id := hashOf("coin")
	good := coinBytes(5, 6, 1)
	s := formatted(t, 40)
	key := coinKeyOf(impl.Point{Id: id, N: 3})
	for _, other := range []string{"c", key[:33], key + "\x00", key + "abcdef", "b" + key[1:], "d" + key[1:], "C" + key[1:], "t", "n" + key[1:], "cc"} {
		s = committed(t, s, putOf(other, good))
	}
	checkCoins(t, "no key of a coin", s, nil, nil)
	least, most := impl.Point{}, impl.Point{N: 255}
	for i := range most.Id {
		most.Id[i] = 255
	}
	points := []impl.Point{least, {N: 1}, {Id: id, N: 0}, {Id: id, N: 3}, {Id: id, N: 127}, {Id: id, N: 128}, {Id: id, N: 255}, most}
	var coins []impl.Coin
	for i, p := range slices.Backward(points) {
		s = committed(t, s, putOf(coinKeyOf(p), coinBytes(uint64(i+1), uint32(i), byte(i%2))))
	}
	for i := range points {
		coins = append(coins, impl.Coin{Value: i + 1, Height: i, Base: i%2 == 1})
	}
	checkCoins(t, "among others", s, points, coins)
	checkCoins(t, "at the start", formatted(t, 8), nil, nil)
}

func TestCoinsOfChain(t *testing.T) {
	s, bases, spend := sixBlocks(t)
	c := stateOf(t, s)
	want := map[impl.Point]impl.Coin{
		outOf(bases[1], 1): {Value: 2000, Height: 1, Base: true},
		outOf(bases[1], 2): {Value: 1500, Height: 1, Base: true},
		outOf(bases[1], 3): {Value: 500, Height: 1, Base: true},
		outOf(bases[2], 0): {Value: 5000, Height: 2, Base: true},
		outOf(bases[3], 0): {Value: 2500, Height: 3, Base: true},
		outOf(bases[4], 0): {Value: 100, Height: 4, Base: true},
		outOf(spend, 0):    {Value: 400, Height: 4},
		outOf(spend, 1):    {Value: 500, Height: 4},
		outOf(bases[5], 0): {Value: 7, Height: 5, Base: true},
		outOf(bases[5], 1): {Value: 1, Height: 5, Base: true},
		outOf(bases[6], 0): {Value: 8, Height: 6, Base: true},
		outOf(bases[6], 1): {Value: 9, Height: 6, Base: true},
	}
	if !sameState(c, chainState{height: 6, tip: c.tip, coins: want}) {
		t.Errorf("%v", c.coins)
	}
	checkCoin(t, "spent", s, outOf(bases[1], 0), impl.Coin{}, false)
	checkCoin(t, "an Out too many", s, outOf(bases[1], 4), impl.Coin{}, false)
}

// Stores that are not valid, for each of the functions. They have a tip and
// coins, if one did not look.
func TestNodeOfStoresThatAreNotValid(t *testing.T) {
	s, bases, _ := sixBlocks(t)
	next := rawBlock(blockOn(stateOf(t, s), baseTx(7, 1)))
	bad := map[string]impl.Store{"nothing": {}}
	for name, d := range brokenDisks(t) {
		bad[name] = impl.Store{Disk: d, Super: impl.Super{Gen: 1, Used: 2}}
	}
	add := func(name string, spoil func(s *impl.Store)) {
		other := deepCopy(s)
		spoil(&other)
		bad[name] = other
	}
	add("Used less by one", func(s *impl.Store) { s.Super.Used-- })
	add("Used more by one", func(s *impl.Store) { s.Super.Used++ })
	add("no Gen", func(s *impl.Store) { s.Super.Gen = 0 })
	add("no Free", func(s *impl.Store) { s.Super.Free = 0 })
	add("no superblock", func(s *impl.Store) { s.Super = impl.Super{} })
	add("a spoilt list", func(s *impl.Store) { flip(s.Disk, s.Super.Free, 700) })
	add("a spoilt root", func(s *impl.Store) { flip(s.Disk, s.Super.Root, 700) })
	add("no disk", func(s *impl.Store) { s.Disk = impl.Disk{} })
	add("a short sector", func(s *impl.Store) { s.Disk.Safe[479] = nil })
	add("a wrong write pending", func(s *impl.Store) { s.Disk.Pending = []impl.Pend{{At: 480, Data: sector(0)}} })
	for name, other := range bad {
		checkTip(t, name, other, 0, impl.Hash{})
		checkCoin(t, name, other, outOf(bases[2], 0), impl.Coin{}, false)
		checkCoins(t, name, other, nil, nil)
		for _, raw := range [][]byte{next, nil, []byte("x")} {
			if changes, code := impl.Connect(other, raw); code != impl.NoStore || len(changes) != 0 {
				t.Errorf("%s: Connect: code %d, %s", name, code, told(changes))
			}
		}
		if changes, code := impl.Disconnect(other); code != impl.NoStore || len(changes) != 0 {
			t.Errorf("%s: Disconnect: code %d, %s", name, code, told(changes))
		}
	}
	checkConnect(t, "the store itself", s, next, 0)
}

// What is pending counts as if it were synced.
func TestNodeOfPendingStore(t *testing.T) {
	s, _, _ := sixBlocks(t)
	raw := rawBlock(blockOn(stateOf(t, s), baseTx(7, 1, 2, 3)))
	changes, want, _ := modelConnect(stateOf(t, s), raw)
	ops, next, _ := impl.Update(s.Disk, s.Super, changes)
	for i := range ops {
		if ops[i].Kind == impl.OpSync {
			continue
		}
		s.Disk = played(t, s.Disk, ops[i])
	}
	s.Super = next
	if len(s.Disk.Pending) == 0 || !sameState(stateOf(t, s), want) {
		t.Errorf("%d pending, %v", len(s.Disk.Pending), stateOf(t, s))
	}
	checkConnect(t, "pending", s, rawBlock(blockOn(want, baseTx(8, 1))), 0)
}

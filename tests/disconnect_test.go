package tests

import (
	"encoding/binary"
	"fmt"
	"math/rand"
	"slices"
	"testing"

	"loop.example/s01906/impl"
)

// modelDisconnect gives what Disconnect must, of any entries.
func modelDisconnect(entries []impl.Entry) ([]impl.Change, int) {
	at := map[string]string{}
	for _, e := range entries {
		at[e.Key] = e.Val
	}
	tip := at["t"]
	if len(tip) != 36 || tip[:4] == "\x00\x00\x00\x00" {
		return nil, impl.AtStart
	}
	height := int(binary.LittleEndian.Uint32([]byte(tip)))
	var changes []impl.Change
	for i := 0; i < 256 && len(at[countKeyOf("n", height, i)]) == 33; i++ {
		key := countKeyOf("n", height, i)
		for n := range at[key][32] {
			changes = append(changes, delOf("c"+at[key][:32]+string([]byte{n})))
		}
		changes = append(changes, delOf(key))
	}
	for j := 0; j < 256 && len(at[countKeyOf("u", height, j)]) == 46; j++ {
		key := countKeyOf("u", height, j)
		changes = append(changes, putOf("c"+at[key][:33], at[key][33:]), delOf(key))
	}
	prev := at[heightKeyOf("b", height)]
	if len(prev) != 32 {
		prev = string(make([]byte, 32))
	}
	changes = append(changes, delOf(heightKeyOf("b", height)))
	if height == 1 {
		return append(changes, delOf("t")), 0
	}
	return append(changes, putOf("t", tipVal(height-1, impl.Hash([]byte(prev))))), 0
}

// checkDisconnect fails unless Disconnect gives what the model does.
func checkDisconnect(t *testing.T, name string, s impl.Store, want int) []impl.Change {
	t.Helper()
	before := deepCopy(s)
	changes, code := impl.Disconnect(s)
	expected, modelled := modelDisconnect(entriesOf(t, s.Disk, s.Super.Root))
	if modelled != want {
		t.Fatalf("%s: the model has the code %d, not %d", name, modelled, want)
	}
	if code != want || !slices.Equal(changes, expected) {
		t.Fatalf("%s: Disconnect: code %d, not %d; %s, not %s", name, code, want, told(changes), told(expected))
	}
	checkKept(t, name+": Disconnect", s, before)
	checkApart(t, name+": Disconnect", []any{changes}, s)
	return changes
}

// The changes of a block that is taken away, each written out.
func TestDisconnectChanges(t *testing.T) {
	s, bases, spend := sixBlocks(t)
	c := stateOf(t, s)
	base := baseTx(7, 10, 20)
	one := spendTx([]impl.Point{outOf(bases[1], 1), outOf(spend, 1)}, 100, 200, 300)
	two := spendTx([]impl.Point{outOf(bases[4], 0)}, 99)
	next := grown(t, s, blockOn(c, base, one, two))
	changes := checkDisconnect(t, "three Txs", next, 0)
	coin := func(x impl.Tx, n int) string { return coinKeyOf(outOf(x, n)) }
	want := []impl.Change{
		delOf(coin(base, 0)), delOf(coin(base, 1)), delOf("n\x00\x00\x00\x07\x00"),
		delOf(coin(one, 0)), delOf(coin(one, 1)), delOf(coin(one, 2)), delOf("n\x00\x00\x00\x07\x01"),
		delOf(coin(two, 0)), delOf("n\x00\x00\x00\x07\x02"),
		putOf(coin(bases[1], 1), coinBytes(2000, 1, 1)), delOf("u\x00\x00\x00\x07\x00"),
		putOf(coin(spend, 1), coinBytes(500, 4, 0)), delOf("u\x00\x00\x00\x07\x01"),
		putOf(coin(bases[4], 0), coinBytes(100, 4, 1)), delOf("u\x00\x00\x00\x07\x02"),
		delOf("b\x00\x00\x00\x07"), putOf("t", "\x06\x00\x00\x00"+string(c.tip[:])),
	}
	if !slices.Equal(changes, want) {
		t.Errorf("%s, not %s", told(changes), told(want))
	}
	back := committed(t, next, changes...)
	if !slices.Equal(entriesOf(t, back.Disk, back.Super.Root), entriesOf(t, s.Disk, s.Super.Root)) {
		t.Errorf("the entries are others behind Disconnect")
	}
}

func TestDisconnectAtStart(t *testing.T) {
	s := formatted(t, 20)
	checkDisconnect(t, "an empty store", s, impl.AtStart)
	records := []impl.Change{
		putOf(countKeyOf("n", 0, 0), pointVal(impl.Point{Id: hashOf("x"), N: 2})),
		putOf(countKeyOf("u", 0, 0), pointVal(impl.Point{})+coinBytes(1, 1, 0)),
		putOf(heightKeyOf("b", 0), string(make([]byte, 32))),
	}
	s = committed(t, s, records...)
	checkDisconnect(t, "records of height 0", s, impl.AtStart)
	checkDisconnect(t, "a tip of height 0", committed(t, s, putOf("t", tipVal(0, hashOf("tip")))), impl.AtStart)
	for _, size := range []int{0, 4, 35, 37} {
		val := (tipVal(5, hashOf("tip")) + "x")[:size]
		checkDisconnect(t, fmt.Sprintf("a tip of %d bytes", size), committed(t, s, putOf("t", val)), impl.AtStart)
	}
	checkDisconnect(t, "a tip of height 256", committed(t, s, putOf("t", tipVal(256, hashOf("tip")))), 0)
	one := grown(t, formatted(t, 20), blockOn(chainState{}, baseTx(1, 1, 2)))
	changes := checkDisconnect(t, "height 1", one, 0)
	if marks(changes) != "c-c-n-b-t-" {
		t.Errorf("%s", marks(changes))
	}
	back := committed(t, one, changes...)
	if left := entriesOf(t, back.Disk, back.Super.Root); len(left) != 0 {
		t.Errorf("%d entries are left", len(left))
	}
	checkDisconnect(t, "at the start again", back, impl.AtStart)
}

// Records that are not there, or have a value of another length.
func TestDisconnectRecords(t *testing.T) {
	const h = 0x01020304
	full := []impl.Change{putOf("t", tipVal(h, hashOf("tip"))), putOf(heightKeyOf("b", h), string(make([]byte, 31))+"p")}
	for i := range 4 {
		full = append(full, putOf(countKeyOf("n", h, i), pointVal(impl.Point{Id: hashOf(fmt.Sprint("tx", i)), N: i})))
		full = append(full, putOf(countKeyOf("u", h, i), pointVal(impl.Point{Id: hashOf(fmt.Sprint("in", i)), N: 250 + i})+coinBytes(9, 9, 0)))
	}
	for _, other := range []int{h - 1, h + 1, 0x04030201, 1} {
		full = append(full, putOf(countKeyOf("n", other, 0), pointVal(impl.Point{N: 9})), putOf(countKeyOf("u", other, 0), pointVal(impl.Point{N: 9})+coinBytes(9, 9, 0)))
		full = append(full, putOf(heightKeyOf("b", other), string(make([]byte, 32))))
	}
	s := committed(t, formatted(t, 60), full...)
	if got := marks(checkDisconnect(t, "all", s, 0)); got != "n-c-n-c-c-n-c-c-c-n-cu-cu-cu-cu-b-t" {
		t.Errorf("%s", got)
	}
	with := func(name, want string, changes ...impl.Change) {
		t.Helper()
		if got := marks(checkDisconnect(t, name, committed(t, s, changes...), 0)); got != want {
			t.Errorf("%s: %s", name, got)
		}
	}
	with("no n 0", "cu-cu-cu-cu-b-t", delOf(countKeyOf("n", h, 0)))
	with("no n 2", "n-c-n-cu-cu-cu-cu-b-t", delOf(countKeyOf("n", h, 2)))
	with("no u 0", "n-c-n-c-c-n-c-c-c-n-b-t", delOf(countKeyOf("u", h, 0)))
	with("no u 2", "n-c-n-c-c-n-c-c-c-n-cu-cu-b-t", delOf(countKeyOf("u", h, 2)))
	with("no b", "n-c-n-c-c-n-c-c-c-n-cu-cu-cu-cu-b-t", delOf(heightKeyOf("b", h)))
	with("nothing but the tip", "b-t", delOf(countKeyOf("n", h, 0)), delOf(countKeyOf("u", h, 0)), delOf(heightKeyOf("b", h)))
	for _, size := range []int{0, 1, 31, 32, 34, 46, 70} {
		with("n 1 of another length", "n-cu-cu-cu-cu-b-t", putOf(countKeyOf("n", h, 1), vals(size)))
	}
	for _, size := range []int{0, 13, 33, 45, 47, 70} {
		with("u 1 of another length", "n-c-n-c-c-n-c-c-c-n-cu-b-t", putOf(countKeyOf("u", h, 1), vals(size)))
	}
	for _, size := range []int{0, 1, 31, 33, 36, 70} {
		changes := checkDisconnect(t, "b of another length", committed(t, s, putOf(heightKeyOf("b", h), vals(size))), 0)
		if last := changes[len(changes)-1]; last != putOf("t", tipVal(h-1, impl.Hash{})) {
			t.Errorf("b of %d bytes: %x", size, last.Val)
		}
	}
	changes := checkDisconnect(t, "b", s, 0)
	if last := changes[len(changes)-1]; last.Val != "\x03\x03\x02\x01"+string(make([]byte, 31))+"p" {
		t.Errorf("%x", last.Val)
	}
	with("an n of no Outs", "n-n-c-c-n-c-c-c-n-cu-cu-cu-cu-b-t", putOf(countKeyOf("n", h, 1), pointVal(impl.Point{Id: hashOf("x"), N: 0})))
	for _, val := range []string{coinBytes(0, 0, 0), coinBytes(1<<64-1, 1<<32-1, 255), vals(13)} {
		odd := pointVal(impl.Point{Id: hashOf("odd"), N: 255}) + val
		changes := checkDisconnect(t, "what is no coin", committed(t, s, putOf(countKeyOf("u", h, 0), odd)), 0)
		if !slices.Contains(changes, putOf("c"+odd[:33], val)) {
			t.Errorf("%q is not put as it stands", val)
		}
	}
}

// As many records as a byte counts, and as many Outs.
func TestDisconnectAllRecords(t *testing.T) {
	for _, h := range []int{1, 2, 1 << 31, 1<<32 - 1} {
		s := committed(t, formatted(t, 500), putOf("t", tipVal(h, hashOf("tip"))))
		for i := range 256 {
			outs := 0
			if i == 7 || i == 255 {
				outs = 255
			}
			s, _ = impl.Commit(s, []impl.Change{
				putOf(countKeyOf("n", h, i), pointVal(impl.Point{Id: hashOf(fmt.Sprint(i)), N: outs})),
				putOf(countKeyOf("u", h, i), pointVal(impl.Point{Id: hashOf(fmt.Sprint(i))})+coinBytes(uint64(i), 1, 0)),
			})
		}
		changes := checkDisconnect(t, fmt.Sprintf("height %d", h), s, 0)
		if len(changes) != 2*255+256+2*256+2 {
			t.Errorf("height %d: %d changes", h, len(changes))
		}
		checkRefused(t, "too many changes", s, changes, 2)
	}
}

// Promise 11: Disconnect behind Connect gives back the tip and the coins, and
// all that stands in the store, from each height down to the start.
func TestDisconnectBehindConnect(t *testing.T) {
	r := rand.New(rand.NewSource(62))
	for range 6 {
		s := formatted(t, 200)
		var states []chainState
		var entries [][]impl.Entry
		for range 15 {
			states = append(states, stateOf(t, s))
			entries = append(entries, entriesOf(t, s.Disk, s.Super.Root))
			s = grown(t, s, randomNext(r, stateOf(t, s)))
			back := committed(t, s, checkDisconnect(t, "at once", s, 0)...)
			if !sameState(stateOf(t, back), states[len(states)-1]) || !slices.Equal(entriesOf(t, back.Disk, back.Super.Root), entries[len(entries)-1]) {
				t.Fatalf("height %d: Disconnect at once gives another store", len(states))
			}
		}
		for i := len(states) - 1; i >= 0; i-- {
			s = committed(t, s, checkDisconnect(t, "down", s, 0)...)
			if !sameState(stateOf(t, s), states[i]) || !slices.Equal(entriesOf(t, s.Disk, s.Super.Root), entries[i]) {
				t.Fatalf("height %d: Disconnect gives another store", i)
			}
		}
		checkDisconnect(t, "at the start", s, impl.AtStart)
	}
}

// Another block can take the place of one that was taken away.
func TestDisconnectAndAnother(t *testing.T) {
	s, bases, spend := sixBlocks(t)
	c := stateOf(t, s)
	other := blockOn(c, baseTx(7, 3), spendTx([]impl.Point{outOf(spend, 0)}, 1, 2, 3))
	want := grown(t, s, other)
	one := grown(t, s, blockOn(c, baseTx(7, 1, 2, 3), spendTx([]impl.Point{outOf(spend, 0)}, 400), spendTx([]impl.Point{outOf(bases[3], 0)}, 1)))
	checkConnect(t, "a brother", one, rawBlock(other), impl.BadParent)
	back := committed(t, one, checkDisconnect(t, "one", one, 0)...)
	two := grown(t, back, other)
	if !slices.Equal(entriesOf(t, two.Disk, two.Super.Root), entriesOf(t, want.Disk, want.Super.Root)) {
		t.Errorf("the block that was taken away is still to be seen")
	}
	again := grown(t, back, blockOn(c, baseTx(7, 1, 2, 3), spendTx([]impl.Point{outOf(spend, 0)}, 400), spendTx([]impl.Point{outOf(bases[3], 0)}, 1)))
	if !sameState(stateOf(t, again), stateOf(t, one)) {
		t.Errorf("the same block makes other coins")
	}
}

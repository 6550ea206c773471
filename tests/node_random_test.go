package tests

import (
	"math/rand"
	"slices"

	"loop.example/s01906/impl"
)

// randomNext is a block that would be connected.
func randomNext(r *rand.Rand, c chainState) impl.Block {
	height := c.height + 1
	ripe := slices.DeleteFunc(c.points(), func(p impl.Point) bool { return c.coins[p].Base && c.coins[p].Height+3 > height })
	r.Shuffle(len(ripe), func(i, j int) { ripe[i], ripe[j] = ripe[j], ripe[i] })
	left := modelSubsidy(height)
	var spends []impl.Tx
	for len(spends) < r.Intn(5) && len(ripe) > 0 {
		k := 1 + r.Intn(min(len(ripe), 3))
		sum := 0
		for _, p := range ripe[:k] {
			sum += c.coins[p].Value
		}
		outs := randomOuts(r, sum)
		left += sum - sumOf(outs)
		spends = append(spends, spendTx(ripe[:k:k], outs...))
		ripe = ripe[k:]
	}
	return blockOn(c, append([]impl.Tx{baseTx(height, randomOuts(r, max(1, left))...)}, spends...)...)
}

// randomOuts are together at most so much, and often just that.
func randomOuts(r *rand.Rand, most int) []int {
	var outs []int
	for len(outs) < 1+r.Intn(4) && most > 0 {
		v := 1 + r.Intn(most)
		if r.Intn(3) == 0 {
			v = most
		}
		outs = append(outs, v)
		most -= v
	}
	return outs
}

// spoilt is a block with something wrong, often; its root is mostly right.
func spoilt(r *rand.Rand, c chainState, b impl.Block) []byte {
	b = deepCopy(b)
	x := r.Intn(len(b.Txs))
	switch r.Intn(12) {
	case 0:
		b.Prev = hashOf("other")
	case 1:
		b.Height += 1 - 2*r.Intn(2)
	case 2:
		b.Txs[x].Outs[0] += 1 + r.Intn(20)
	case 3:
		b.Txs[0].Outs[0] += 1 + r.Intn(20)
	case 4:
		b.Txs[x].Height++
	case 5:
		b.Txs = append(b.Txs, b.Txs[x])
	case 6:
		if len(c.coins) > 0 {
			points := c.points()
			b.Txs[x].Ins = append(b.Txs[x].Ins, points[r.Intn(len(points))])
		}
	case 7:
		b.Txs[x].Ins = append(b.Txs[x].Ins, outOf(b.Txs[r.Intn(len(b.Txs))], 0))
	case 8:
		b.Txs[x].Ins = nil
	case 9:
		b.Txs = b.Txs[:x]
	case 10:
		b.Txs[0], b.Txs[x] = b.Txs[x], b.Txs[0]
	}
	b.Root = modelRoot(idsOf(b.Txs))
	raw := rawBlock(b)
	if r.Intn(8) == 0 {
		raw[r.Intn(len(raw))] ^= 1 << r.Intn(8)
	}
	return raw
}

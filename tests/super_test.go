package tests

import (
	"math"
	"math/rand"
	"testing"

	"loop.example/s01906/impl"
)

func superOps(t *testing.T, s impl.Super) []impl.Op {
	t.Helper()
	ops, ok := impl.SuperOps(s)
	if !ok {
		t.Fatalf("no ops of %v", s)
	}
	return ops
}

func superBody(s impl.Super) []byte {
	var b []byte
	for _, f := range []struct{ n, size int }{{s.Gen, 8}, {s.Root, 4}, {s.Used, 4}, {s.Free, 4}} {
		for i := range f.size {
			b = append(b, byte(f.n>>(8*i)))
		}
	}
	return b
}

var goodSupers = []impl.Super{
	{Gen: 1, Used: 2},
	{Gen: 2, Used: 2},
	{Gen: impl.MaxGen, Used: 1024},
	{Gen: impl.MaxGen - 1, Root: 1023, Used: 1024, Free: 1023},
	{Gen: 3, Root: 2, Used: 3},
	{Gen: 3, Free: 2, Used: 3},
	{Gen: 4, Root: 2, Used: 4, Free: 3},
	{Gen: 70000, Root: 299, Used: 300, Free: 258},
}

var badSupers = []impl.Super{
	{},
	{Gen: 0, Used: 2},
	{Gen: -1, Used: 2},
	{Gen: math.MinInt, Used: 2},
	{Gen: impl.MaxGen + 1, Used: 2},
	{Gen: math.MaxInt, Used: 2},
	{Gen: 1, Used: 1},
	{Gen: 1, Used: 0},
	{Gen: 1, Used: -1},
	{Gen: 1, Used: 1025},
	{Gen: 1, Used: math.MaxInt},
	{Gen: 1, Used: 5, Root: 1},
	{Gen: 1, Used: 5, Root: 5},
	{Gen: 1, Used: 5, Root: -1},
	{Gen: 1, Used: 2, Root: 2},
	{Gen: 1, Used: 5, Free: 1},
	{Gen: 1, Used: 5, Free: 5},
	{Gen: 1, Used: 5, Free: -1},
	{Gen: 1, Used: 2, Free: 2},
	{Gen: 1, Used: 1024, Root: 1024},
	{Gen: 1, Used: 1024, Free: math.MaxInt},
	{Gen: 1, Used: 1024, Root: 1<<32 | 5},
}

func TestSuperOps(t *testing.T) {
	for _, s := range goodSupers {
		ops, ok := impl.SuperOps(s)
		if !ok || !sameOps(ops, pageOps(t, s.Gen%2, impl.KindSuper, superBody(s))) {
			t.Errorf("%v: %v %v", s, ok, ops)
		}
		checkApart(t, "SuperOps", []any{ops})
	}
	for _, s := range badSupers {
		if ops, ok := impl.SuperOps(s); ok || len(ops) != 0 {
			t.Errorf("%v: ops", s)
		}
	}
}

func TestBestSuperReadsBack(t *testing.T) {
	d := newDisk(t, 4096)
	if s, ok := impl.BestSuper(d); ok || s != (impl.Super{}) {
		t.Errorf("an empty disk: %v", s)
	}
	for _, s := range goodSupers {
		e := played(t, d, superOps(t, s)...)
		before := deepCopy(e)
		if got, ok := impl.BestSuper(e); !ok || got != s {
			t.Errorf("%v: %v %v", s, ok, got)
		}
		checkKept(t, "BestSuper", e, before)
		if got, ok := impl.BestSuper(played(t, e, sync())); !ok || got != s {
			t.Errorf("%v synced: %v %v", s, ok, got)
		}
	}
}

// Promise 3: of two, the one with the greater Gen, whichever page it stands in and whenever it was written.
func TestBestSuperOfTwo(t *testing.T) {
	d := newDisk(t, 64)
	gens := []int{1, 2, 3, 10, 99, 256, 257, 65536, 1 << 32, 1<<32 + 1, impl.MaxGen - 1, impl.MaxGen}
	for _, a := range gens {
		for _, b := range gens {
			if a%2 == b%2 {
				continue
			}
			first := impl.Super{Gen: a, Used: 5, Root: 3}
			second := impl.Super{Gen: b, Used: 6, Free: 4}
			want := first
			if b > a {
				want = second
			}
			e := played(t, d, append(superOps(t, first), superOps(t, second)...)...)
			if got, ok := impl.BestSuper(e); !ok || got != want {
				t.Errorf("%d and %d: %v %v", a, b, ok, got)
			}
		}
	}
}

// A new superblock in the place of the old one counts even when its Gen is less.
func TestBestSuperAfterOverwrite(t *testing.T) {
	d := played(t, newDisk(t, 64), superOps(t, impl.Super{Gen: 9, Used: 4})...)
	d = played(t, d, superOps(t, impl.Super{Gen: 4, Used: 5})...)
	d = played(t, d, superOps(t, impl.Super{Gen: 3, Used: 6})...)
	if s, ok := impl.BestSuper(d); !ok || s != (impl.Super{Gen: 4, Used: 5}) {
		t.Errorf("%v %v", ok, s)
	}
}

// A spoilt newer superblock leaves the older one.
func TestBestSuperWithSpoiltPage(t *testing.T) {
	older := impl.Super{Gen: 6, Used: 4, Root: 3}
	newer := impl.Super{Gen: 7, Used: 5, Root: 4}
	d := played(t, newDisk(t, 64), append(superOps(t, older), superOps(t, newer)...)...)
	d = played(t, d, sync())
	for bit := range 8 * impl.PageSize {
		for page, left := range []impl.Super{newer, older} {
			e := deepCopy(d)
			at := 4*page + bit/512
			e.Safe[at][bit%512/8] ^= 1 << (bit % 8)
			if s, ok := impl.BestSuper(e); !ok || s != left {
				t.Fatalf("bit %d of page %d: %v %v", bit, page, ok, s)
			}
		}
	}
}

// Pages that are sound but no superblock, or not where their Gen belongs.
func TestBestSuperRefusals(t *testing.T) {
	d := newDisk(t, 4096)
	none := func(name string, id, kind int, body []byte) {
		t.Helper()
		e := played(t, d, pageOps(t, id, kind, body)...)
		if s, ok := impl.BestSuper(e); ok || s != (impl.Super{}) {
			t.Errorf("%s: %v", name, s)
		}
	}
	good := superBody(impl.Super{Gen: 5, Used: 9, Root: 3})
	for kind := impl.KindLeaf; kind <= impl.KindFree; kind++ {
		none("another kind", 1, kind, good)
	}
	none("the other page", 0, impl.KindSuper, good)
	none("the other page", 1, impl.KindSuper, superBody(impl.Super{Gen: 6, Used: 9}))
	none("a page behind", 2, impl.KindSuper, superBody(impl.Super{Gen: 6, Used: 9}))
	none("a page behind", 3, impl.KindSuper, good)
	none("a body of 19 bytes", 1, impl.KindSuper, good[:19])
	none("a body of 21 bytes", 1, impl.KindSuper, append(good[:20:20], 0))
	none("no body", 1, impl.KindSuper, nil)
	for _, s := range badSupers {
		if s.Root>>32 != 0 || s.Used>>32 != 0 || s.Free>>32 != 0 {
			continue // four bytes can't say it
		}
		none("not valid", s.Gen&1, impl.KindSuper, superBody(s))
	}
	for _, id := range []int{0, 1} {
		none("a Gen of 64 bits", id, impl.KindSuper, superBody(impl.Super{Gen: math.MinInt + 4 + id, Used: 2}))
		none("a Gen of 64 bits", id, impl.KindSuper, superBody(impl.Super{Gen: -2 - id, Used: 2}))
	}
	none("a Root of 32 bits", 1, impl.KindSuper, superBody(impl.Super{Gen: 5, Used: 9, Root: 1<<32 - 1}))
	none("a Used of 32 bits", 1, impl.KindSuper, superBody(impl.Super{Gen: 5, Used: 1<<32 - 1}))
	none("a Free of 32 bits", 1, impl.KindSuper, superBody(impl.Super{Gen: 5, Used: 9, Free: 1<<32 - 2}))
}

func TestBestSuperUsedAndPages(t *testing.T) {
	for _, c := range []struct {
		sectors, used int
		ok            bool
	}{{4, 2, false}, {7, 2, false}, {8, 2, true}, {8, 3, false}, {11, 3, false}, {12, 3, true}, {4095, 1024, false}, {4095, 1023, true}, {4096, 1024, true}} {
		d := newDisk(t, c.sectors)
		e, n := impl.Play(d, superOps(t, impl.Super{Gen: 2, Used: c.used}), 4)
		if _, ok := impl.BestSuper(e); n != 4 || ok != c.ok {
			t.Errorf("%d sectors, Used %d: %v", c.sectors, c.used, ok)
		}
	}
	d := played(t, newDisk(t, 20), superOps(t, impl.Super{Gen: 8, Used: 5})...)
	d = played(t, d, superOps(t, impl.Super{Gen: 9, Used: 6})...)
	if s, ok := impl.BestSuper(d); !ok || s.Gen != 8 {
		t.Errorf("a newer one with too great a Used: %v %v", ok, s)
	}
}

// While a superblock is written, a crash at any point leaves one of the two.
func TestBestSuperAfterCrash(t *testing.T) {
	older := impl.Super{Gen: 6, Used: 4, Root: 3}
	newer := impl.Super{Gen: 7, Used: 5, Root: 4}
	base := played(t, newDisk(t, 64), superOps(t, impl.Super{Gen: 5, Used: 3, Root: 2})...)
	base = played(t, base, superOps(t, older)...)
	base = played(t, base, sync())
	ops := append(superOps(t, newer), sync())
	r := rand.New(rand.NewSource(5))
	for n := range len(ops) + 1 {
		for range 40 {
			d, done := impl.Play(base, ops, n)
			choice := []byte{byte(r.Intn(256)), byte(r.Intn(256)), byte(r.Intn(256)), byte(r.Intn(256))}
			e, ok := impl.Crash(d, choice)
			s, found := impl.BestSuper(e)
			if done != n || !ok || !found || s != older && s != newer || n == len(ops) && s != newer || n == 0 && s != older {
				t.Fatalf("%d ops, choice %v: %v", n, choice, s)
			}
		}
	}
}

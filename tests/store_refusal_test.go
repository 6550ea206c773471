package tests

import (
	"fmt"
	"slices"
	"testing"

	"loop.example/s01906/impl"
)

func TestOpenCodes(t *testing.T) {
	for name, d := range brokenDisks(t) {
		checkOpen(t, name, d, 1)
		checkNotValid(t, name, impl.Store{Disk: d, Super: impl.Super{Gen: 1, Used: 2}})
	}
	spoilt := formatted(t, 8).Disk
	spoilt.Safe[9] = spoilt.Safe[9][:63]
	checkOpen(t, "a superblock, but a short sector", spoilt, 1)
	for _, sectors := range []int{1, 3, 4, 7, 8, 32, 4096} {
		checkOpen(t, fmt.Sprintf("%d sectors of zeros", sectors), newDisk(t, sectors), 2)
	}
	for i, s := range badSupers {
		if s.Root>>32 != 0 || s.Used>>32 != 0 || s.Free>>32 != 0 {
			continue // four bytes can't say it
		}
		d := laid(t, 16, laidPage{id: s.Gen & 1, kind: impl.KindSuper, body: superBody(s)})
		checkOpen(t, fmt.Sprintf("bad superblock %d", i), d, 2)
		checkNotValid(t, fmt.Sprintf("bad superblock %d", i), impl.Store{Disk: d, Super: s})
	}
	good := impl.Super{Gen: 3, Used: 9}
	checkOpen(t, "Used is greater than the disk", played(t, newDisk(t, 32), superOps(t, good)...), 2)
	checkOpen(t, "a superblock in the wrong page", laid(t, 16, laidPage{id: 0, kind: impl.KindSuper, body: superBody(good)}), 2)
	checkOpen(t, "a leaf in its place", laid(t, 16, laidPage{id: 1, kind: impl.KindLeaf, body: superBody(good)}), 2)
}

// Superblocks that are sound, but name what is not whole.
func TestOpenOfWhatIsNotWhole(t *testing.T) {
	leaf := leafPage(2, "a", "1", "b", "2")
	for _, c := range []struct {
		name  string
		super impl.Super
		on    []laidPage
	}{
		{"no root there", impl.Super{Gen: 1, Root: 2, Used: 3}, nil},
		{"the root is a list", impl.Super{Gen: 1, Root: 2, Used: 3}, []laidPage{listPage(2, 0)}},
		{"keys that do not ascend", impl.Super{Gen: 1, Root: 2, Used: 3}, []laidPage{leafPage(2, "b", "", "a", "")}},
		{"a key that is there twice", impl.Super{Gen: 1, Root: 2, Used: 3}, []laidPage{leafPage(2, "a", "", "a", "")}},
		{"an empty leaf", impl.Super{Gen: 1, Root: 2, Used: 3}, []laidPage{leafPage(2)}},
		{"a kid that is not there", impl.Super{Gen: 1, Root: 3, Used: 5}, []laidPage{leaf, innerPage(3, 2, "c", 4)}},
		{"a kid that comes twice", impl.Super{Gen: 1, Root: 3, Used: 4}, []laidPage{leaf, innerPage(3, 2, "c", 2)}},
		{"a key below its sign", impl.Super{Gen: 1, Root: 4, Used: 5}, []laidPage{leaf, leafPage(3, "c", ""), innerPage(4, 2, "d", 3)}},
		{"a page that nothing names", impl.Super{Gen: 1, Root: 2, Used: 4}, []laidPage{leaf}},
		{"pages behind the empty tree", impl.Super{Gen: 1, Used: 3}, nil},
		{"no list there", impl.Super{Gen: 1, Root: 2, Used: 4, Free: 3}, []laidPage{leaf}},
		{"the list is a leaf", impl.Super{Gen: 1, Root: 2, Used: 4, Free: 3}, []laidPage{leaf, leafPage(3, "a", "")}},
		{"the list goes round", impl.Super{Gen: 1, Root: 2, Used: 4, Free: 3}, []laidPage{leaf, listPage(3, 3)}},
		{"a free page of the tree", impl.Super{Gen: 1, Root: 2, Used: 4, Free: 3}, []laidPage{leaf, listPage(3, 0, 2)}},
		{"a free page behind Used", impl.Super{Gen: 1, Root: 2, Used: 4, Free: 3}, []laidPage{leaf, listPage(3, 0, 4)}},
		{"free pages that do not ascend", impl.Super{Gen: 1, Root: 2, Used: 6, Free: 3}, []laidPage{leaf, listPage(3, 0, 5, 4)}},
		{"the list is the root", impl.Super{Gen: 1, Root: 2, Used: 3, Free: 2}, []laidPage{leaf}},
	} {
		d := played(t, laid(t, 16, c.on...), append(superOps(t, c.super), sync())...)
		checkOpen(t, c.name, d, 3)
		checkNotValid(t, c.name, impl.Store{Disk: d, Super: c.super})
		d = played(t, d, append(superOps(t, impl.Super{Gen: 2, Used: 2}), sync())...)
		if s, code := impl.Open(d); code != 0 || s.Super.Gen != 2 {
			t.Errorf("%s, but a newer one is whole: code %d", c.name, code)
		}
	}
}

// A superblock that a store names need not stand on its disk, but must be whole.
func TestStoresThatAreNotWhole(t *testing.T) {
	s := committed(t, formatted(t, 16), putOf("a", "1"), putOf("b", "2"))
	s = committed(t, s, putOf("a", "3"))
	checkHolds(t, "as it is", s, []impl.Entry{{Key: "a", Val: "3"}, {Key: "b", Val: "2"}})
	spoil := func(name string, change func(s *impl.Super)) {
		other := deepCopy(s)
		change(&other.Super)
		checkNotValid(t, name, other)
	}
	spoil("Used less by one", func(s *impl.Super) { s.Used-- })
	spoil("Used more by one", func(s *impl.Super) { s.Used++ })
	spoil("Used behind the disk", func(s *impl.Super) { s.Used = 17 })
	spoil("no Root", func(s *impl.Super) { s.Root = 0 })
	spoil("the list as Root", func(s *impl.Super) { s.Root = s.Free })
	spoil("no Free", func(s *impl.Super) { s.Free = 0 })
	spoil("the tree as Free", func(s *impl.Super) { s.Free = s.Root })
	spoil("no Gen", func(s *impl.Super) { s.Gen = 0 })
	spoil("too great a Gen", func(s *impl.Super) { s.Gen = impl.MaxGen + 1 })
	spoil("nothing", func(s *impl.Super) { *s = impl.Super{} })
	checkNotValid(t, "no store", impl.Store{})
	beyond := impl.Store{Disk: laid(t, 8, listPage(2, 0, numbers(3, 8)...)), Super: impl.Super{Gen: 1, Used: 9, Free: 2}}
	checkNotValid(t, "a free page behind the disk", beyond)
	within := impl.Store{Disk: laid(t, 9, listPage(2, 0, numbers(3, 8)...)), Super: beyond.Super}
	checkHolds(t, "a free page at the end of the disk", within, nil)

	other := deepCopy(s)
	other.Super.Gen = 77
	checkHolds(t, "another Gen", other, []impl.Entry{{Key: "a", Val: "3"}, {Key: "b", Val: "2"}})
}

// At the last Gen a store can be read, but not changed.
func TestStoreAtTheLastGen(t *testing.T) {
	last := impl.Super{Gen: impl.MaxGen, Root: 2, Used: 3}
	s := opened(t, laidWhole(t, 8, last, leafPage(2, "a", "1")))
	checkHolds(t, "the last Gen", s, []impl.Entry{{Key: "a", Val: "1"}})
	checkRefused(t, "the last Gen", s, nil, 1)
	checkRefused(t, "the last Gen", s, []impl.Change{putOf("a", "2")}, 1)
	checkRefused(t, "the last Gen", s, []impl.Change{putOf("", "2")}, 1)
	before := impl.Super{Gen: impl.MaxGen - 1, Root: 2, Used: 3}
	s = opened(t, laidWhole(t, 8, before, leafPage(2, "a", "1")))
	if s = committed(t, s, putOf("a", "2")); s.Super.Gen != impl.MaxGen {
		t.Errorf("%v", s.Super)
	}
}

func TestWrongChanges(t *testing.T) {
	s := committed(t, formatted(t, 16), putOf("a", "1"))
	for name, c := range map[string]impl.Change{
		"no key": putOf("", "1"), "a key of 41 bytes": putOf(padded("k", 41), "1"), "a value of 71 bytes": putOf("k", vals(71)),
		"a Val beside Del":                   {Key: "a", Val: "1", Del: true},
		"a Val beside Del of nothing":        {Key: "b", Val: "x", Del: true},
		"a Del of no key":                    delOf(""),
		"a Del of a key of 41 bytes":         delOf(padded("k", 41)),
		"a value of 71 bytes beside Del":     {Key: "a", Val: vals(71), Del: true},
		"a key of 41 bytes and a long value": putOf(padded("k", 41), vals(71)),
	} {
		checkRefused(t, name, s, []impl.Change{c}, 2)
		checkRefused(t, name+", last", s, []impl.Change{putOf("b", "1"), delOf("a"), c}, 2)
		checkRefused(t, name+", first", s, []impl.Change{c, putOf("b", "1")}, 2)
	}
	s = committed(t, s, putOf(padded("k", 40), vals(70)), putOf("k", ""), delOf(padded("j", 40)))
	checkHolds(t, "the longest", s, []impl.Entry{{Key: "a", Val: "1"}, {Key: "k", Val: ""}, {Key: padded("k", 40), Val: vals(70)}})
}

// Of several codes the first counts.
func TestCommitFirstCode(t *testing.T) {
	full := committed(t, formatted(t, 8), manyBig(15)...)
	checkRefused(t, "no room", full, []impl.Change{delOf("a")}, 3)
	checkRefused(t, "a wrong key, and no room", full, []impl.Change{delOf("a"), putOf("", "")}, 2)
	checkRefused(t, "too many changes, and no room", full, slices.Repeat([]impl.Change{delOf("a")}, 401), 2)
	full.Super.Used--
	checkRefused(t, "not whole, and a wrong key, and no room", full, []impl.Change{delOf("a"), putOf("", "")}, 1)
	crowded := withPending(t, formatted(t, 8), impl.MaxPending)
	checkRefused(t, "too much pending", crowded, []impl.Change{putOf("a", "")}, 3)
	checkRefused(t, "too much pending, and a wrong value", crowded, []impl.Change{putOf("a", vals(71))}, 2)
}

// manyBig are puts of which three fill a leaf.
func manyBig(n int) []impl.Change {
	var changes []impl.Change
	for i := range n {
		changes = append(changes, putOf(string(rune('a'+i)), vals(70)))
	}
	return changes
}

// withPending gives the store with so many writes pending, of a page behind all others.
func withPending(t *testing.T, s impl.Store, n int) impl.Store {
	t.Helper()
	s = deepCopy(s)
	at := len(s.Disk.Safe) - 1
	for i := range n {
		s.Disk.Pending = append(s.Disk.Pending, impl.Pend{At: at, Data: sector(byte(i))})
	}
	return s
}

func TestPendingStaysBehindOpen(t *testing.T) {
	s := committed(t, formatted(t, 16), putOf("a", "1"))
	ops, next, _ := impl.Update(s.Disk, s.Super, []impl.Change{putOf("a", "2"), putOf("b", "3")})
	for stop := range len(ops) + 1 {
		d, _ := impl.Play(s.Disk, ops, stop)
		checkOpen(t, "pending", d, 0)
		got := opened(t, d)
		if !sameDisk(got.Disk, d) || got.Super != s.Super && got.Super != next {
			t.Fatalf("stop %d: %v, %d pending", stop, got.Super, len(got.Disk.Pending))
		}
		if stop == len(ops)-1 && (got.Super != next || len(got.Disk.Pending) != 4) {
			t.Errorf("a pending superblock: %v, %d pending", got.Super, len(got.Disk.Pending))
		}
		checkHolds(t, "pending", got, entriesOf(t, d, got.Super.Root))
		same, code := impl.Commit(got, nil)
		if code != 0 || !sameStore(same, got) {
			t.Errorf("stop %d: a Commit of nothing: code %d, %d pending", stop, code, len(same.Disk.Pending))
		}
	}
}

// A tree whose pages are all pending is read as if they were synced.
func TestStoreThatIsPending(t *testing.T) {
	d, _ := impl.Format(16)
	s := impl.Super{Gen: 2, Root: 4, Used: 5}
	for _, p := range []laidPage{innerPage(4, 2, "d", 3), leafPage(2, "a", "old"), leafPage(2, "a", "1"), leafPage(3, "d", "2")} {
		d = played(t, d, pageOps(t, p.id, p.kind, p.body)...)
	}
	d = played(t, d, superOps(t, s)...)
	store := opened(t, d)
	if len(store.Disk.Pending) != 20 || !sameDisk(store.Disk, d) {
		t.Fatalf("%d pending", len(store.Disk.Pending))
	}
	checkHolds(t, "pending", store, []impl.Entry{{Key: "a", Val: "1"}, {Key: "d", Val: "2"}})
	store = committed(t, store, putOf("b", "3"))
	if len(store.Disk.Pending) != 0 {
		t.Errorf("%d pending behind Commit", len(store.Disk.Pending))
	}
	checkHolds(t, "synced", store, []impl.Entry{{Key: "a", Val: "1"}, {Key: "b", Val: "3"}, {Key: "d", Val: "2"}})
}

// The writes in front of the first sync must have place among those pending.
func TestTooMuchPending(t *testing.T) {
	s := committed(t, formatted(t, 32), putOf("a", "1"))
	for _, changes := range [][]impl.Change{{putOf("a", "2")}, manyBig(12)} {
		ops, _, _ := impl.Update(s.Disk, s.Super, changes)
		writes := slices.IndexFunc(ops, func(op impl.Op) bool { return op.Kind == impl.OpSync })
		just := withPending(t, s, impl.MaxPending-writes)
		got := committed(t, just, changes...)
		checkHolds(t, "just enough place", got, entriesAfter([]impl.Entry{{Key: "a", Val: "1"}}, changes))
		for _, n := range []int{impl.MaxPending - writes + 1, impl.MaxPending - 1, impl.MaxPending} {
			crowded := withPending(t, s, n)
			checkRefused(t, fmt.Sprintf("%d pending", n), crowded, changes, 3)
			checkRefused(t, fmt.Sprintf("%d pending, nothing to do", n), crowded, []impl.Change{delOf("x")}, 0)
			checkHolds(t, "crowded", crowded, []impl.Entry{{Key: "a", Val: "1"}})
		}
	}
	checkNotValid(t, "one too many pending", withPending(t, s, impl.MaxPending+1))
	checkOpen(t, "one too many pending", withPending(t, s, impl.MaxPending+1).Disk, 1)
}

package tests

import (
	"bytes"
	"fmt"
	"math/rand"
	"slices"
	"testing"

	"loop.example/s01906/impl"
)

// choices are several that keep, drop and mix sectors; the rest is random.
func choices(r *rand.Rand, random int) [][]byte {
	all := [][]byte{nil, {0}, {1}, {255}, {0, 1}, {1, 0}, {1, 0, 0}, {0, 1, 1}, {0, 0, 0, 1}, {1, 1, 1, 0}, {1, 0, 0, 0}, bytes.Repeat([]byte{1, 0, 1, 1, 0}, 3)}
	for range random {
		b := make([]byte, 1+r.Intn(40))
		r.Read(b)
		all = append(all, b)
	}
	return all
}

// crashed plays the first ops and crashes.
func crashed(t *testing.T, d impl.Disk, ops []impl.Op, stop int, choice []byte) impl.Disk {
	t.Helper()
	e, n := impl.Play(d, ops, stop)
	e, ok := impl.Crash(e, choice)
	if n != stop || !ok {
		t.Fatalf("stop %d: %d ops, %v", stop, n, ok)
	}
	return e
}

// checkCrashes stops behind each first part of the ops of an Update: Open must
// give the store before or the one behind. Until a sector of the superblock is
// written it is the one before; when all is done, the one behind.
func checkCrashes(t *testing.T, name string, s impl.Store, changes []impl.Change, tries [][]byte) {
	t.Helper()
	ops, next, code := impl.Update(s.Disk, s.Super, changes)
	if code != 0 {
		t.Fatalf("%s: Update: code %d", name, code)
	}
	before := entriesOf(t, s.Disk, s.Super.Root)
	behind := entriesAfter(before, changes)
	seen := map[int]int{}
	for stop := range len(ops) + 1 {
		for _, choice := range tries {
			d := crashed(t, s.Disk, ops, stop, choice)
			got, code := impl.Open(d)
			if code != 0 || !sameDisk(got.Disk, d) || !impl.Whole(got.Disk, got.Super) {
				t.Fatalf("%s: stop %d, choice %v: code %d, %v", name, stop, choice, code, got.Super)
			}
			want := before
			switch got.Super {
			case s.Super:
			case next:
				want = behind
			default:
				t.Fatalf("%s: stop %d, choice %v: %v is neither %v nor %v", name, stop, choice, got.Super, s.Super, next)
			}
			if all, ok := impl.Scan(got, "", 9999); !ok || !slices.Equal(all, want) {
				t.Fatalf("%s: stop %d, choice %v: %v has other entries", name, stop, choice, got.Super)
			}
			if stop < len(ops)-4 && got.Super != s.Super || stop == len(ops) && got.Super != next {
				t.Fatalf("%s: stop %d, choice %v: %v", name, stop, choice, got.Super)
			}
			seen[got.Super.Gen]++
		}
	}
	if len(ops) > 0 && len(seen) != 2 {
		t.Errorf("%s: only %v were seen", name, seen)
	}
}

// Promise 6, for stores of several shapes.
func TestCrashBehindEachOp(t *testing.T) {
	tries := choices(rand.New(rand.NewSource(1)), 12)
	empty := formatted(t, 64)
	checkCrashes(t, "the first put", empty, []impl.Change{putOf("a", "1")}, tries)
	checkCrashes(t, "many puts", empty, manyPuts(60), tries)
	checkCrashes(t, "nothing", empty, nil, tries)
	one := committed(t, empty, putOf("a", "1"))
	checkCrashes(t, "a replaced value", one, []impl.Change{putOf("a", "2")}, tries)
	checkCrashes(t, "the same value", one, []impl.Change{putOf("a", "1")}, tries)
	checkCrashes(t, "all gone", one, []impl.Change{delOf("a")}, tries)
	checkCrashes(t, "a Del of nothing", one, []impl.Change{delOf("b")}, tries)
	many := committed(t, empty, manyPuts(60)...)
	checkCrashes(t, "a Del", many, []impl.Change{delOf("k0030")}, tries)
	var dels []impl.Change
	for _, c := range manyPuts(60) {
		dels = append(dels, delOf(c.Key))
	}
	checkCrashes(t, "all Dels", many, dels, tries)
	gone := committed(t, many, dels...)
	checkCrashes(t, "free pages are taken again", gone, manyPuts(50), tries)
}

// Each sector of a page that stands alone can be lost or kept: all the ways of
// four sectors, behind each op.
func TestCrashWithEachMix(t *testing.T) {
	var tries [][]byte
	for mix := range 16 {
		tries = append(tries, []byte{byte(mix & 1), byte(mix >> 1 & 1), byte(mix >> 2 & 1), byte(mix >> 3)})
	}
	s := committed(t, formatted(t, 16), putOf("a", vals(70)), putOf("b", vals(70)), putOf("c", vals(70)))
	checkCrashes(t, "a cut", s, []impl.Change{putOf("d", vals(70)), putOf("a", "1")}, tries)
	s = committed(t, s, putOf("d", vals(70)), putOf("a", "1"))
	checkCrashes(t, "a join", s, []impl.Change{delOf("d"), delOf("b")}, tries)
}

// A long life: commits, and crashes in the midst of them, after each of which
// the store goes on with what it has.
func TestLifeWithCrashes(t *testing.T) {
	for i, c := range []struct{ pages, names, most int }{{12, 8, 4}, {40, 40, 12}, {128, 120, 40}} {
		r := rand.New(rand.NewSource(int64(30 + i)))
		s := formatted(t, c.pages)
		var want []impl.Entry
		before, behind := 0, 0
		for round := range 150 {
			var changes []impl.Change
			for range 1 + r.Intn(c.most) {
				changes = append(changes, randomChange(r, c.names, 20, 2+r.Intn(5)))
			}
			ops, next, code := impl.Update(s.Disk, s.Super, changes)
			if code == 3 {
				checkRefused(t, "no room", s, changes, 3)
				continue
			}
			stop := len(ops) - r.Intn(8)
			if round%3 == 0 {
				stop = r.Intn(len(ops) + 1)
			}
			stop = max(stop, 0)
			tries := choices(r, 4)
			choice := tries[r.Intn(len(tries))]
			after := opened(t, crashed(t, s.Disk, ops, stop, choice))
			switch after.Super {
			case s.Super:
				before++
			case next:
				behind++
				want = entriesAfter(want, changes)
			default:
				t.Fatalf("case %d, round %d: %v is neither %v nor %v", i, round, after.Super, s.Super, next)
			}
			s = after
			checkOnce(t, s.Disk, s.Super)
			if all, ok := impl.Scan(s, "", 9999); !ok || !slices.Equal(all, want) {
				t.Fatalf("case %d, round %d: %v, not %v", i, round, all, want)
			}
		}
		if before < 20 || behind < 20 {
			t.Errorf("case %d: %d before, %d behind", i, before, behind)
		}
	}
}

// The store before a Commit stands on the disk as long as nothing is written
// behind it: a spoilt page of the newer superblock gives it back, one of the
// older superblock does nothing.
func TestSpoiltSuperblock(t *testing.T) {
	older := committed(t, formatted(t, 40), manyPuts(30)...)
	newer := committed(t, older, putOf("k0003", "x"), delOf("k0020"))
	d := deepCopy(newer.Disk)
	for bit := 0; bit < 8*impl.PageSize; bit += 5 {
		for _, c := range []struct{ spoilt, left impl.Store }{{newer, older}, {older, newer}} {
			flip(d, c.spoilt.Super.Gen%2, bit)
			if s, code := impl.Open(d); code != 0 || s.Super != c.left.Super {
				t.Fatalf("bit %d of Gen %d: code %d, %v", bit, c.spoilt.Super.Gen, code, s.Super)
			}
			flip(d, c.spoilt.Super.Gen%2, bit)
		}
	}
	flip(d, newer.Super.Gen%2, 77)
	checkHolds(t, "the one before", opened(t, d), entriesOf(t, older.Disk, older.Super.Root))
	flip(d, older.Super.Gen%2, 78)
	checkOpen(t, "both are spoilt", d, 2)
}

// flip changes a bit of a page.
func flip(d impl.Disk, page, bit int) {
	d.Safe[4*page+bit/512][bit%512/8] ^= 1 << (bit % 8)
}

// A spoilt page of the tree or of the list is not gone round: the superblock
// with the greatest Gen counts, though the older one were whole.
func TestSpoiltPages(t *testing.T) {
	s := committed(t, formatted(t, 40), manyPuts(30)...)
	s = committed(t, s, putOf("k0003", "x"), delOf("k0020"))
	free, own, _ := impl.FreeList(s.Disk, s.Super)
	pages, _ := impl.TreePages(s.Disk, s.Super.Root)
	if len(free) == 0 || len(own) == 0 || len(pages) < 3 {
		t.Fatalf("free %v, own %v, tree %v", free, own, pages)
	}
	for _, id := range slices.Concat(pages, own) {
		for _, bit := range []int{0, 31, 32, 64, 80, 130, 200, 511, 512, 1024, 1536, 2047} {
			d := deepCopy(s.Disk)
			flip(d, id, bit)
			checkOpen(t, fmt.Sprintf("page %d, bit %d", id, bit), d, 3)
			checkNotValid(t, fmt.Sprintf("page %d, bit %d", id, bit), impl.Store{Disk: d, Super: s.Super})
		}
	}
	d := deepCopy(s.Disk)
	for _, id := range append(numbers(s.Super.Used, 39), free...) {
		for bit := range 40 {
			flip(d, id, 51*bit)
		}
	}
	if got, code := impl.Open(d); code != 0 || got.Super != s.Super {
		t.Errorf("only pages that nothing names are spoilt: code %d", code)
	}
	checkHolds(t, "only pages that nothing names are spoilt", impl.Store{Disk: d, Super: s.Super}, entriesOf(t, s.Disk, s.Super.Root))
}

package tests

import (
	"fmt"
	"math"
	"math/rand"
	"slices"
	"testing"

	"loop.example/s01906/impl"
)

func TestFormat(t *testing.T) {
	for _, pages := range []int{8, 9, 10, 64, 1023, 1024} {
		d, ok := impl.Format(pages)
		want := played(t, newDisk(t, 4*pages), append(superOps(t, impl.Super{Gen: 1, Used: 2}), sync())...)
		if !ok || !sameDisk(d, want) {
			t.Errorf("%d pages: %v", pages, ok)
		}
		checkApart(t, "Format", []any{d})
		s := opened(t, d)
		if s.Super != (impl.Super{Gen: 1, Used: 2}) || !sameDisk(s.Disk, d) {
			t.Errorf("%d pages: opened as %v", pages, s.Super)
		}
		checkHolds(t, "formatted", s, nil)
	}
	for _, pages := range []int{7, 1025, 0, -1, -8, 1, 2, 4096, math.MaxInt, math.MinInt, math.MinInt/4 + 8, math.MaxInt/4 + 9} {
		if d, ok := impl.Format(pages); ok || len(d.Safe)+len(d.Pending) != 0 {
			t.Errorf("%d pages: a disk", pages)
		}
	}
}

func TestFormatGivesNewMemory(t *testing.T) {
	a, _ := impl.Format(8)
	b, _ := impl.Format(8)
	checkApart(t, "Format", []any{a, b})
}

func TestCommitAfterCommit(t *testing.T) {
	s := formatted(t, 32)
	for i, c := range []struct {
		changes []impl.Change
		want    string
	}{
		{[]impl.Change{putOf("b", "2")}, "[{b 2}]"},
		{[]impl.Change{putOf("a", ""), putOf("c", "3")}, "[{a } {b 2} {c 3}]"},
		{[]impl.Change{putOf("b", "4")}, "[{a } {b 4} {c 3}]"},
		{[]impl.Change{putOf("b", "5"), putOf("b", "6")}, "[{a } {b 6} {c 3}]"},
		{[]impl.Change{delOf("a"), delOf("x")}, "[{b 6} {c 3}]"},
		{[]impl.Change{putOf("d", "1"), delOf("d")}, "[{b 6} {c 3}]"},
		{[]impl.Change{delOf("c"), putOf("c", "7")}, "[{b 6} {c 7}]"},
		{[]impl.Change{delOf("c"), delOf("b"), delOf("b")}, "[]"},
		{[]impl.Change{putOf("\x00", "\xff\x00")}, "[{\x00 \xff\x00}]"},
	} {
		s = committed(t, s, c.changes...)
		if s.Super.Gen != i+2 {
			t.Errorf("case %d: Gen %d", i, s.Super.Gen)
		}
		all, ok := impl.Scan(s, "", 99)
		if got := fmt.Sprint(all); !ok || got != c.want {
			t.Errorf("case %d: %s", i, got)
		}
		checkHolds(t, fmt.Sprint(i), s, all)
		if back := opened(t, s.Disk); !sameStore(back, s) {
			t.Errorf("case %d: opened as %v, not %v", i, back.Super, s.Super)
		}
	}
}

func TestCommitOfNothing(t *testing.T) {
	s := formatted(t, 8)
	for _, s := range []impl.Store{s, committed(t, s, putOf("a", "1"))} {
		for i, changes := range [][]impl.Change{nil, {}, {delOf("b")}, {delOf("b"), delOf("")}} {
			got, code := impl.Commit(s, changes)
			want := 0
			if i == 3 { // the empty key is none
				want = 2
			}
			if code != want || !sameStore(got, s) {
				t.Errorf("%v, %d: code %d, %v", s.Super, i, code, got.Super)
			}
			checkApart(t, "Commit", []any{got}, s, changes)
		}
	}
}

func TestGet(t *testing.T) {
	s := committed(t, formatted(t, 32), putOf("b", "2"), putOf("ab", ""), putOf("abc", "3"), putOf(padded("k", 40), vals(70)))
	for key, want := range map[string]string{"b": "2", "ab": "", "abc": "3", padded("k", 40): vals(70)} {
		if v, ok := impl.Get(s, key); !ok || v != want {
			t.Errorf("%q: %q %v", key, v, ok)
		}
	}
	for _, key := range []string{"", "a", "aba", "abcd", "b\x00", "B", "k", padded("k", 39), padded("k", 41), "zz", "\x00", "\xff"} {
		if v, ok := impl.Get(s, key); ok || v != "" {
			t.Errorf("%q: %q", key, v)
		}
	}
}

func TestScan(t *testing.T) {
	s := committed(t, formatted(t, 32), putOf("b", "2"), putOf("d", "4"), putOf("f", "6"))
	for _, c := range []struct {
		from string
		most int
		want string
	}{
		{"", -1, "[]"}, {"", math.MinInt, "[]"}, {"", 0, "[]"}, {"", 1, "[{b 2}]"}, {"", 2, "[{b 2} {d 4}]"},
		{"", 3, "[{b 2} {d 4} {f 6}]"}, {"", 4, "[{b 2} {d 4} {f 6}]"}, {"", math.MaxInt, "[{b 2} {d 4} {f 6}]"},
		{"a", 9, "[{b 2} {d 4} {f 6}]"}, {"b", 9, "[{b 2} {d 4} {f 6}]"}, {"b\x00", 9, "[{d 4} {f 6}]"}, {"c", 9, "[{d 4} {f 6}]"},
		{"d", 1, "[{d 4}]"}, {"d", 2, "[{d 4} {f 6}]"}, {"d", 3, "[{d 4} {f 6}]"}, {"e", 1, "[{f 6}]"},
		{"f", 9, "[{f 6}]"}, {"g", 9, "[]"}, {"g", 0, "[]"}, {"g", -1, "[]"}, {padded("b", 300), 1, "[{d 4}]"},
	} {
		before := deepCopy(s)
		all, ok := impl.Scan(s, c.from, c.most)
		if got := fmt.Sprint(all); !ok || got != c.want {
			t.Errorf("%q, %d: %v, %s", c.from, c.most, ok, got)
		}
		checkKept(t, "Scan", s, before)
		checkApart(t, "Scan", []any{all}, s)
	}
	first, _ := impl.Scan(s, "", 9)
	first[0] = impl.Entry{Key: "x", Val: "y"}
	if v, ok := impl.Get(s, "b"); !ok || v != "2" {
		t.Errorf("an answer was written into: %q %v", v, ok)
	}
}

// Scans go on from leaf to leaf, and begin with the leaf behind a sign.
func TestScanOverLeaves(t *testing.T) {
	s := impl.Super{Gen: 1, Root: 9, Used: 12}
	d := laidWhole(t, 16, s,
		innerPage(9, 10, "m", 11), innerPage(10, 2, "d", 3, "g", 4), innerPage(11, 5, "q", 6, "t", 7, "v", 8),
		leafPage(2, "a", "1", "b", "2"), leafPage(3, "e", "3"), leafPage(4, "g", "4", "h", "5"),
		leafPage(5, "n", "6"), leafPage(6, "q", "7", "r", "8"), leafPage(7, "tt", "9"), leafPage(8, "w", "10"))
	store := opened(t, d)
	checkHolds(t, "laid", store, entriesOf(t, d, s.Root))
	for from, want := range map[string]string{
		"": "{a 1}", "c": "{e 3}", "d": "{e 3}", "f": "{g 4}", "g": "{g 4}", "i": "{n 6}", "m": "{n 6}", "o": "{q 7}", "s": "{tt 9}", "t": "{tt 9}", "u": "{w 10}", "v": "{w 10}",
	} {
		all, ok := impl.Scan(store, from, 1)
		if !ok || fmt.Sprint(all) != "["+want+"]" {
			t.Errorf("%q: %v %v", from, ok, all)
		}
		if v, ok := impl.Get(store, from); ok != (from == "g") || from != "g" && v != "" {
			t.Errorf("%q: %q %v", from, v, ok)
		}
	}
	thin := impl.Super{Gen: 2, Root: 2, Used: 5}
	d = laidWhole(t, 8, thin, innerPage(2, 3), innerPage(3, 4), leafPage(4, "a", "1", "b", "2"))
	checkHolds(t, "thin", opened(t, d), []impl.Entry{{Key: "a", Val: "1"}, {Key: "b", Val: "2"}})
}

func manyPuts(n int) []impl.Change {
	var changes []impl.Change
	for i := range n {
		changes = append(changes, putOf(fmt.Sprintf("k%04d", i), fmt.Sprint(i)))
	}
	return changes
}

func TestNumberOfChanges(t *testing.T) {
	s := formatted(t, 200)
	got := committed(t, s, manyPuts(400)...)
	checkHolds(t, "400 changes", got, entriesAfter(nil, manyPuts(400)))
	checkRefused(t, "401 changes", s, manyPuts(401), 2)
	checkRefused(t, "401 changes", got, manyPuts(401), 2)
	dels := slices.Repeat([]impl.Change{delOf("x")}, 400)
	checkRefused(t, "400 Dels of nothing", s, dels, 0)
	checkRefused(t, "401 Dels of nothing", s, append(dels, delOf("x")), 2)
}

// Promise 8, on stores of several sizes: Get and Scan against Entries.
func TestStoreAgainstEntries(t *testing.T) {
	for i, c := range []struct{ pages, names, longest, most, rounds int }{
		{8, 6, 1, 3, 30}, {32, 30, 20, 8, 30}, {128, 150, 37, 40, 8}, {1024, 400, 37, 400, 2},
	} {
		r := rand.New(rand.NewSource(int64(i)))
		s := formatted(t, c.pages)
		var want []impl.Entry
		done := 0
		for range c.rounds {
			var changes []impl.Change
			for range r.Intn(c.most) + 1 {
				changes = append(changes, randomChange(r, c.names, c.longest, 1+r.Intn(6)))
			}
			if _, _, code := impl.Update(s.Disk, s.Super, changes); code == 3 {
				checkRefused(t, "no room", s, changes, 3)
				continue
			}
			done++
			s = committed(t, s, changes...)
			want = entriesAfter(want, changes)
			checkHolds(t, fmt.Sprint(i), s, want)
		}
		if all, ok := impl.Scan(s, "", math.MaxInt); !ok || !slices.Equal(all, want) || done < 2 {
			t.Errorf("case %d: %d entries, not %d", i, len(all), len(want))
		}
	}
}

// Fifteen entries are five leaves and a root, which a disk of eight pages has
// just room for.
func TestCommitAndRoom(t *testing.T) {
	var changes []impl.Change
	for i := range 16 {
		changes = append(changes, putOf(string(rune('a'+i)), vals(70)))
	}
	s := committed(t, formatted(t, 8), changes[:15]...)
	if s.Super.Used != 8 {
		t.Errorf("%v", s.Super)
	}
	checkRefused(t, "eight pages lack one", formatted(t, 8), changes, 3)
	if s := committed(t, formatted(t, 9), changes...); s.Super.Used != 9 {
		t.Errorf("%v", s.Super)
	}
	checkRefused(t, "no page left", s, []impl.Change{delOf("a")}, 3)
	checkRefused(t, "nothing to do on a full disk", s, []impl.Change{delOf("x")}, 0)
	checkRefused(t, "no changes on a full disk", s, nil, 0)

	one := committed(t, formatted(t, 8), putOf("a", "1"))
	one = committed(t, one, changes[:8]...)
	checkHolds(t, "used again", one, entriesAfter(nil, changes[:8]))
}

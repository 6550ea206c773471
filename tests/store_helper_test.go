package tests

import (
	"slices"
	"testing"

	"loop.example/s01906/impl"
)

// formatted opens a new disk.
func formatted(t *testing.T, pages int) impl.Store {
	t.Helper()
	d, ok := impl.Format(pages)
	if !ok {
		t.Fatalf("no disk of %d pages", pages)
	}
	return opened(t, d)
}

func opened(t *testing.T, d impl.Disk) impl.Store {
	t.Helper()
	s, code := impl.Open(d)
	if code != 0 {
		t.Fatalf("Open: code %d", code)
	}
	return s
}

// committed does a Commit, and holds what it gave against Update and Play.
func committed(t *testing.T, s impl.Store, changes ...impl.Change) impl.Store {
	t.Helper()
	before, list := deepCopy(s), slices.Clone(changes)
	d, super := updated(t, s.Disk, s.Super, changes...)
	got, code := impl.Commit(s, changes)
	if code != 0 || got.Super != super || !sameDisk(got.Disk, d) {
		t.Fatalf("Commit: code %d, %v, not %v", code, got.Super, super)
	}
	checkKept(t, "Commit", s, before)
	checkKept(t, "Commit", changes, list)
	checkApart(t, "Commit", []any{got}, s, changes)
	return got
}

func sameStore(a, b impl.Store) bool {
	return a.Super == b.Super && sameDisk(a.Disk, b.Disk)
}

// checkRefused fails unless Commit has this code, and the store is as given.
func checkRefused(t *testing.T, name string, s impl.Store, changes []impl.Change, want int) {
	t.Helper()
	before, list := deepCopy(s), slices.Clone(changes)
	got, code := impl.Commit(s, changes)
	if code != want || !sameStore(got, before) {
		t.Errorf("%s: Commit: code %d, not %d, %v", name, code, want, got.Super)
	}
	checkKept(t, name+": Commit", s, before)
	checkKept(t, name+": Commit", changes, list)
	checkApart(t, name+": Commit", []any{got}, s, changes)
}

// checkNotValid fails unless no call takes the store.
func checkNotValid(t *testing.T, name string, s impl.Store) {
	t.Helper()
	before := deepCopy(s)
	for _, key := range []string{"a", "b", "", "zz"} {
		if v, ok := impl.Get(s, key); ok || v != "" {
			t.Errorf("%s: Get %q: %q %v", name, key, v, ok)
		}
		for _, most := range []int{-1, 0, 1, 99} {
			if all, ok := impl.Scan(s, key, most); ok || len(all) != 0 {
				t.Errorf("%s: Scan %q %d: %v %v", name, key, most, all, ok)
			}
		}
	}
	checkKept(t, name, s, before)
	checkRefused(t, name, s, nil, 1)
	checkRefused(t, name, s, []impl.Change{putOf("a", "1")}, 1)
	checkRefused(t, name, s, []impl.Change{putOf("", "1")}, 1)
}

// checkOpen fails unless Open has this code, with nothing beside it.
func checkOpen(t *testing.T, name string, d impl.Disk, want int) {
	t.Helper()
	before := deepCopy(d)
	s, code := impl.Open(d)
	if code != want || code != 0 && (s.Super != impl.Super{} || len(s.Disk.Safe)+len(s.Disk.Pending) != 0) {
		t.Errorf("%s: Open: code %d, not %d, %v", name, code, want, s.Super)
	}
	checkKept(t, name+": Open", d, before)
	checkApart(t, name+": Open", []any{s}, d)
}

// checkHolds fails unless Get and Scan agree with these entries, from their
// keys (of many entries, from some forty) and from keys around them.
func checkHolds(t *testing.T, name string, s impl.Store, want []impl.Entry) {
	t.Helper()
	if all := entriesOf(t, s.Disk, s.Super.Root); !slices.Equal(all, want) {
		t.Fatalf("%s: entries %v, not %v", name, all, want)
	}
	froms := []string{"", "\x00", "\xff", padded("m", 60)}
	for i := 0; i < len(want); i += 1 + len(want)/40 {
		key := want[i].Key
		froms = append(froms, key, key+"\x00", key[:len(key)-1])
	}
	if len(want) > 0 {
		last := want[len(want)-1].Key
		froms = append(froms, last, last+"\x00")
	}
	for i, from := range froms {
		at := 0
		for at < len(want) && want[at].Key < from {
			at++
		}
		there := at < len(want) && want[at].Key == from
		v, ok := impl.Get(s, from)
		if ok != there || there && v != want[at].Val || !there && v != "" {
			t.Fatalf("%s: Get %q: %q %v", name, from, v, ok)
		}
		left := len(want) - at
		for _, most := range []int{-1, 0, 1, i, left - 1, left, left + 1} {
			all, ok := impl.Scan(s, from, most)
			if !ok || !slices.Equal(all, want[at:at+max(0, min(most, left))]) {
				t.Fatalf("%s: Scan %q %d: %v %v", name, from, most, all, ok)
			}
		}
	}
}

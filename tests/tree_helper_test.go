package tests

import (
	"fmt"
	"slices"
	"strings"
	"testing"

	"loop.example/s01906/impl"
)

// laidPage is a page that a test lays on a disk by hand.
type laidPage struct {
	id, kind int
	body     []byte
}

func u32(n int) []byte {
	return []byte{byte(n), byte(n >> 8), byte(n >> 16), byte(n >> 24)}
}

func text(s string) []byte {
	return append([]byte{byte(len(s))}, s...)
}

// leafPage takes keys and values in turn.
func leafPage(id int, keysAndValues ...string) laidPage {
	p := laidPage{id: id, kind: impl.KindLeaf}
	for _, s := range keysAndValues {
		p.body = append(p.body, text(s)...)
	}
	return p
}

// innerPage takes signs and kids in turn behind the first kid.
func innerPage(id, first int, signsAndKids ...any) laidPage {
	p := laidPage{id: id, kind: impl.KindInner, body: u32(first)}
	for _, x := range signsAndKids {
		if kid, ok := x.(int); ok {
			p.body = append(p.body, u32(kid)...)
		} else {
			p.body = append(p.body, text(x.(string))...)
		}
	}
	return p
}

func listPage(id, next int, ids ...int) laidPage {
	p := laidPage{id: id, kind: impl.KindFree, body: u32(next)}
	for _, id := range ids {
		p.body = append(p.body, u32(id)...)
	}
	return p
}

// laid gives a disk of so many pages on which these stand, synced.
func laid(t *testing.T, pages int, on ...laidPage) impl.Disk {
	t.Helper()
	var ops []impl.Op
	for _, p := range on {
		ops = append(ops, pageOps(t, p.id, p.kind, p.body)...)
	}
	return played(t, newDisk(t, 4*pages), append(ops, sync())...)
}

// laidWhole gives a disk that is whole, with its superblock on it too.
func laidWhole(t *testing.T, pages int, s impl.Super, on ...laidPage) impl.Disk {
	t.Helper()
	d := played(t, laid(t, pages, on...), append(superOps(t, s), sync())...)
	if !impl.Whole(d, s) {
		t.Fatalf("what was laid for %v is not whole", s)
	}
	return d
}

// emptyStore is a disk with the empty tree.
func emptyStore(t *testing.T, pages int) (impl.Disk, impl.Super) {
	t.Helper()
	s := impl.Super{Gen: 1, Used: 2}
	return laidWhole(t, pages, s), s
}

// padded gives a text of so many bytes; shape shows it without its dots.
func padded(name string, size int) string {
	return name + strings.Repeat(".", size-len(name))
}

func vals(size int) string {
	return strings.Repeat("v", size)
}

func putOf(key, val string) impl.Change {
	return impl.Change{Key: key, Val: val}
}

func delOf(key string) impl.Change {
	return impl.Change{Key: key, Del: true}
}

// numbers gives from, from+1, .. to.
func numbers(from, to int) []int {
	var out []int
	for n := from; n <= to; n++ {
		out = append(out, n)
	}
	return out
}

// readNode takes a page of a tree apart: entries of a leaf, signs and kids of an inner page.
func readNode(t *testing.T, d impl.Disk, id int) (entries []impl.Entry, signs []string, kids []int) {
	t.Helper()
	kind, body, ok := impl.ReadPage(d, id)
	if !ok || kind != impl.KindLeaf && kind != impl.KindInner {
		t.Fatalf("page %d: kind %d, %v", id, kind, ok)
	}
	cut := func(n int) string {
		s := string(body[:n])
		body = body[n:]
		return s
	}
	number := func() int {
		b := cut(4)
		return int(b[0]) | int(b[1])<<8 | int(b[2])<<16 | int(b[3])<<24
	}
	if kind == impl.KindInner {
		signs, kids = []string{""}, []int{number()}
	}
	for len(body) > 0 {
		key := cut(int(cut(1)[0]))
		if kind == impl.KindLeaf {
			entries = append(entries, impl.Entry{Key: key, Val: cut(int(cut(1)[0]))})
		} else {
			signs, kids = append(signs, key), append(kids, number())
		}
	}
	return entries, signs, kids
}

// shape tells a tree: [keys] of a leaf, {kids with sign:} of an inner page.
func shape(t *testing.T, d impl.Disk, root int) string {
	t.Helper()
	if root == 0 {
		return "-"
	}
	entries, signs, kids := readNode(t, d, root)
	var parts []string
	for _, e := range entries {
		parts = append(parts, strings.TrimRight(e.Key, "."))
	}
	for i, kid := range kids {
		part := shape(t, d, kid)
		if i > 0 {
			part = strings.TrimRight(signs[i], ".") + ":" + part
		}
		parts = append(parts, part)
	}
	if kids != nil {
		return "{" + strings.Join(parts, " ") + "}"
	}
	return "[" + strings.Join(parts, " ") + "]"
}

func checkShape(t *testing.T, name string, d impl.Disk, s impl.Super, want string) {
	t.Helper()
	if got := shape(t, d, s.Root); got != want {
		t.Errorf("%s: the tree is %s, not %s", name, got, want)
	}
}

// checkList holds the free list against the ids and pages that it should have.
func checkList(t *testing.T, name string, d impl.Disk, s impl.Super, ids, own []int) {
	t.Helper()
	gotIds, gotOwn, ok := impl.FreeList(d, s)
	if !ok || !slices.Equal(gotIds, ids) || !slices.Equal(gotOwn, own) {
		t.Errorf("%s: free list %v on %v (%v), not %v on %v", name, gotIds, gotOwn, ok, ids, own)
	}
}

// entriesAfter gives, in order, what changes make of entries.
func entriesAfter(before []impl.Entry, changes []impl.Change) []impl.Entry {
	all := map[string]string{}
	for _, e := range before {
		all[e.Key] = e.Val
	}
	for _, c := range changes {
		if c.Del {
			delete(all, c.Key)
		} else {
			all[c.Key] = c.Val
		}
	}
	var out []impl.Entry
	for key, val := range all {
		out = append(out, impl.Entry{Key: key, Val: val})
	}
	slices.SortFunc(out, func(a, b impl.Entry) int { return strings.Compare(a.Key, b.Key) })
	return out
}

func entriesOf(t *testing.T, d impl.Disk, root int) []impl.Entry {
	t.Helper()
	all, ok := impl.Entries(d, root)
	if !ok {
		t.Fatalf("no valid tree at %d", root)
	}
	return all
}

// checkOnce fails unless tree, list and free pages are all the numbers from 2 to Used-1, each once.
func checkOnce(t *testing.T, d impl.Disk, s impl.Super) {
	t.Helper()
	pages, pok := impl.TreePages(d, s.Root)
	free, own, fok := impl.FreeList(d, s)
	all := slices.Concat(pages, free, own)
	slices.Sort(all)
	if !pok || !fok || !slices.Equal(all, numbers(2, s.Used-1)) {
		t.Fatalf("%v: tree %v, free %v, list %v", s, pages, free, own)
	}
}

// checkUntouched fails when an op writes a page of the tree, of the list, or of the superblock.
func checkUntouched(t *testing.T, d impl.Disk, s impl.Super, ops []impl.Op) {
	t.Helper()
	pages, _ := impl.TreePages(d, s.Root)
	_, own, _ := impl.FreeList(d, s)
	kept := append(slices.Concat(pages, own), s.Gen%2)
	for _, op := range ops {
		if op.Kind == impl.OpWrite && slices.Contains(kept, op.At/4) {
			t.Fatalf("%v: page %d is written over", s, op.At/4)
		}
	}
}

// updated does an Update and plays its ops; the promises 4, 5 and 7 are held
// against it on the way.
func updated(t *testing.T, d impl.Disk, s impl.Super, changes ...impl.Change) (impl.Disk, impl.Super) {
	t.Helper()
	ops, next, code := impl.Update(d, s, changes)
	if code != 0 {
		t.Fatalf("Update: code %d", code)
	}
	checkUntouched(t, d, s, ops)
	want := entriesAfter(entriesOf(t, d, s.Root), changes)
	d = played(t, d, ops...)
	if !impl.Whole(d, next) {
		t.Fatalf("the disk is not whole behind Update: %v", next)
	}
	if got := entriesOf(t, d, next.Root); !slices.Equal(got, want) {
		t.Fatalf("entries %v, not %v", got, want)
	}
	checkOnce(t, d, next)
	return d, next
}

// writtenPages gives the pages that ops write, in order, with "sync" between.
func writtenPages(t *testing.T, ops []impl.Op) string {
	t.Helper()
	var out []string
	for i := 0; i < len(ops); i++ {
		if ops[i].Kind == impl.OpSync {
			out = append(out, "sync")
			continue
		}
		page := ops[i].At / 4
		for k := range 4 {
			if i+k >= len(ops) || ops[i+k].Kind != impl.OpWrite || ops[i+k].At != 4*page+k {
				t.Fatalf("the ops from %d are not those of a page", i)
			}
		}
		i += 3
		out = append(out, fmt.Sprint(page))
	}
	return strings.Join(out, " ")
}

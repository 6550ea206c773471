package tests

import (
	"fmt"
	"slices"
	"testing"

	"loop.example/s01906/impl"
)

func TestUpdateOfOneLeaf(t *testing.T) {
	d, s := emptyStore(t, 16)
	d, s = updated(t, d, s, putOf("b", "2"))
	checkShape(t, "one put", d, s, "[b]")
	d, s = updated(t, d, s, putOf("a", "1"), putOf("c", "3"), putOf("b", "4"))
	if got := fmt.Sprint(entriesOf(t, d, s.Root)); got != "[{a 1} {b 4} {c 3}]" {
		t.Errorf("a replaced value: %s", got)
	}
	d, s = updated(t, d, s, delOf("b"), delOf("x"), delOf("b"))
	checkShape(t, "a Del", d, s, "[a c]")
	d, s = updated(t, d, s, delOf("c"), delOf("a"))
	checkShape(t, "all gone", d, s, "-")
}

func TestUpdateLengths(t *testing.T) {
	d, s := emptyStore(t, 16)
	long := padded("k", 40)
	d, s = updated(t, d, s, putOf("a", ""), putOf(long, vals(70)), putOf("\x00", "\xff"))
	if got := entriesOf(t, d, s.Root); len(got) != 3 || got[2] != (impl.Entry{Key: long, Val: vals(70)}) {
		t.Errorf("%v", got)
	}
	d, s = updated(t, d, s, delOf(long), delOf("a"), delOf("\x00"))
	checkShape(t, "all gone", d, s, "-")
}

func TestUpdateOpsInOrder(t *testing.T) {
	d, s := emptyStore(t, 16)
	ops, next, code := impl.Update(d, s, []impl.Change{putOf("a", "1")})
	want := slices.Concat(pageOps(t, 2, impl.KindLeaf, []byte("\x01a\x011")), []impl.Op{sync()}, superOps(t, impl.Super{Gen: 2, Root: 2, Used: 3}), []impl.Op{sync()})
	if code != 0 || next != (impl.Super{Gen: 2, Root: 2, Used: 3}) || !sameOps(ops, want) {
		t.Fatalf("%v, code %d: %v", next, code, ops)
	}
	d = played(t, d, ops...)
	ops, next, code = impl.Update(d, next, []impl.Change{putOf("a", "2")})
	want = slices.Concat(pageOps(t, 3, impl.KindLeaf, []byte("\x01a\x012")), pageOps(t, 4, impl.KindFree, append(u32(0), u32(2)...)), []impl.Op{sync()}, superOps(t, impl.Super{Gen: 3, Root: 3, Used: 5, Free: 4}), []impl.Op{sync()})
	if code != 0 || next != (impl.Super{Gen: 3, Root: 3, Used: 5, Free: 4}) || !sameOps(ops, want) {
		t.Fatalf("%v, code %d: %v", next, code, ops)
	}
}

// The fresh nodes take pages kids first, from the first kid on; the least free
// pages go first, to nodes and then to the list.
func TestUpdateTakesPagesInOrder(t *testing.T) {
	s := impl.Super{Gen: 4, Root: 9, Used: 15, Free: 8}
	d := laidWhole(t, 32, s,
		innerPage(9, 10, "m", 11), innerPage(10, 2, "d", 3), innerPage(11, 4, "t", 5),
		leafPage(2, "a", ""), leafPage(3, "d", ""), leafPage(4, "m", ""), leafPage(5, "t", ""),
		listPage(8, 0, 6, 7, 12, 13, 14))
	ops, next, code := impl.Update(d, s, []impl.Change{putOf("u", ""), putOf("b", "")})
	if code != 0 || next != (impl.Super{Gen: 5, Root: 14, Used: 16, Free: 15}) {
		t.Fatalf("%v, code %d", next, code)
	}
	if got := writtenPages(t, ops); got != "6 7 12 13 14 15 sync 1 sync" {
		t.Errorf("pages in the order %s", got)
	}
	d = played(t, d, ops...)
	checkShape(t, "two puts", d, next, "{{[a b] d:[d]} m:{[m] t:[t u]}}")
	for id, want := range map[int]string{6: "[a b]", 7: "{[a b] d:[d]}", 12: "[t u]", 13: "{[m] t:[t u]}"} {
		if got := shape(t, d, id); got != want {
			t.Errorf("page %d: %s, not %s", id, got, want)
		}
	}
	checkList(t, "behind", d, next, []int{2, 5, 8, 9, 10, 11}, []int{15})
	d, s = updated(t, d, next, putOf("b", "1"))
	if s != (impl.Super{Gen: 6, Root: 8, Used: 16, Free: 9}) {
		t.Errorf("%v", s)
	}
	checkList(t, "once more", d, s, []int{6, 7, 10, 11, 14, 15}, []int{9})
}

func TestUpdateThatChangesNothing(t *testing.T) {
	d, s := emptyStore(t, 8)
	for i, changes := range [][]impl.Change{nil, {}, {delOf("a")}, {delOf("a"), delOf("b")}} {
		if ops, next, code := impl.Update(d, s, changes); code != 0 || next != s || len(ops) != 0 {
			t.Errorf("the empty tree, %d: %v, code %d", i, next, code)
		}
	}
	d, s = updated(t, d, s, putOf("a", "1"))
	if ops, next, code := impl.Update(d, s, []impl.Change{delOf("b"), delOf("aa"), delOf("0")}); code != 0 || next != s || len(ops) != 0 {
		t.Errorf("keys that are not there: %v, code %d", next, code)
	}
	if ops, next, code := impl.Update(d, s, []impl.Change{putOf("a", "1")}); code != 0 || next.Gen != s.Gen+1 || len(ops) != 14 {
		t.Errorf("the value that is there: %v, code %d", next, code)
	}
	if ops, next, code := impl.Update(d, s, []impl.Change{putOf("b", ""), delOf("b")}); code != 0 || next.Gen != s.Gen+1 || len(ops) != 14 {
		t.Errorf("there and back: %v, code %d", next, code)
	}
	if ops, next, code := impl.Update(d, s, []impl.Change{delOf("a"), putOf("a", "1")}); code != 0 || next.Gen != s.Gen+1 || len(ops) != 14 {
		t.Errorf("back and there: %v, code %d", next, code)
	}
}

func TestLeafIsCut(t *testing.T) {
	for _, c := range []struct {
		name    string
		changes []impl.Change
		want    string
	}{
		{"MaxBody bytes", []impl.Change{putOf("a", vals(57)), putOf("b", vals(57)), putOf("c", vals(57)), putOf("d", vals(57))}, "[a b c d]"},
		{"one more", []impl.Change{putOf("a", vals(57)), putOf("b", vals(57)), putOf("c", vals(57)), putOf("d", vals(58))}, "{[a b c] d:[d]}"},
		{"one more in front", []impl.Change{putOf("d", vals(57)), putOf("c", vals(57)), putOf("b", vals(57)), putOf("a", vals(58))}, "{[a b c] d:[d]}"},
		{"one more by a greater value", []impl.Change{putOf("a", vals(57)), putOf("b", vals(57)), putOf("c", vals(57)), putOf("d", vals(57)), putOf("b", vals(58))}, "{[a b c] d:[d]}"},
		{"MaxBody bytes on the left", []impl.Change{putOf("a", vals(57)), putOf("b", vals(57)), putOf("c", vals(57)), putOf("d", vals(57)), putOf("e", "")}, "{[a b c d] e:[e]}"},
		{"as many as fit", []impl.Change{putOf("c", vals(10)), putOf("d", vals(10)), putOf("e", vals(10)), putOf("f", vals(10)), putOf("a", vals(70)), putOf("b", vals(70)), putOf("g", vals(70))}, "{[a b c d e f] g:[g]}"},
		{"two on the left", []impl.Change{putOf("b"+vals(39), vals(70)), putOf("c", vals(70)), putOf("d", vals(50)), putOf("a"+vals(39), vals(70))}, "{[a" + vals(39) + " b" + vals(39) + "] c:[c d]}"},
		{"two cuts", []impl.Change{putOf("a", vals(70)), putOf("b", vals(70)), putOf("c", vals(70)), putOf("d", vals(70)), putOf("e", vals(70)), putOf("f", vals(70)), putOf("g", vals(70))}, "{[a b c] d:[d e f] g:[g]}"},
		{"a cut in front", []impl.Change{putOf("e", vals(70)), putOf("f", vals(70)), putOf("g", vals(70)), putOf("h", vals(70)), putOf("c", vals(70)), putOf("d", vals(70))}, "{[c d e] f:[f] g:[g] h:[h]}"},
	} {
		d, s := emptyStore(t, 16)
		d, s = updated(t, d, s, c.changes...)
		checkShape(t, c.name, d, s, c.want)
		d, s = emptyStore(t, 32)
		for _, change := range c.changes {
			d, s = updated(t, d, s, change)
		}
		checkShape(t, c.name+", one by one", d, s, c.want)
	}
}

// wideRoot lays an inner root with a full first leaf, a to c, and a leaf of one
// entry for each further sign.
func wideRoot(t *testing.T, signs ...string) (impl.Disk, impl.Super) {
	t.Helper()
	on := []laidPage{leafPage(2, "a", vals(70), "b", vals(70), "c", vals(70))}
	var kids []any
	for i, sign := range signs {
		on = append(on, leafPage(3+i, sign, ""))
		kids = append(kids, sign, 3+i)
	}
	root := 3 + len(signs)
	s := impl.Super{Gen: 1, Root: root, Used: root + 1}
	return laidWhole(t, 64, s, append(on, innerPage(root, 2, kids...))...), s
}

func signsOf(sizes ...int) []string {
	var out []string
	for i, size := range sizes {
		out = append(out, padded(string(rune('f'+i)), size))
	}
	return out
}

func TestInnerNodeIsCut(t *testing.T) {
	for _, c := range []struct {
		name  string
		signs []string
		key   string
		want  string
	}{
		{"MaxBody bytes", signsOf(40, 40, 40, 40, 20, 20), "d", "{[a b c] d:[d] f:[f] g:[g] h:[h] i:[i] j:[j] k:[k]}"},
		{"one more, with n-2 on the left", signsOf(40, 40, 40, 40, 20, 20), "dd", "{{[a b c] dd:[dd] f:[f] g:[g] h:[h] i:[i]} j:{[j] k:[k]}}"},
		{"as many as fit, which is n-2", signsOf(40, 40, 40, 40, 40, 6), padded("d", 40), "{{[a b c] d:[d] f:[f] g:[g] h:[h] i:[i]} j:{[j] k:[k]}}"},
		{"as many as fit", signsOf(40, 40, 40, 40, 1, 1, 1, 1, 1, 1, 1, 1, 1), padded("d", 40), "{{[a b c] d:[d] f:[f] g:[g] h:[h] i:[i] j:[j]} k:{[k] l:[l] m:[m] n:[n] o:[o] p:[p] q:[q] r:[r]}}"},
		{"just MaxBody bytes fit", signsOf(40, 40, 40, 40, 6, 1, 1, 1, 1), padded("d", 40), "{{[a b c] d:[d] f:[f] g:[g] h:[h] i:[i] j:[j]} k:{[k] l:[l] m:[m] n:[n]}}"},
		{"one byte too many", signsOf(40, 40, 40, 40, 7, 1, 1, 1, 1), padded("d", 40), "{{[a b c] d:[d] f:[f] g:[g] h:[h] i:[i]} j:{[j] k:[k] l:[l] m:[m] n:[n]}}"},
	} {
		d, s := wideRoot(t, c.signs...)
		d, s = updated(t, d, s, putOf(c.key, vals(25)))
		checkShape(t, c.name, d, s, c.want)
	}
}

// A cut that goes from a leaf through an inner node to the root.
func TestCutsGoUp(t *testing.T) {
	on := []laidPage{leafPage(2, "a", vals(70), "b", vals(70), "c", vals(70))}
	add := func(p laidPage) int {
		on = append(on, p)
		return p.id
	}
	next := func() int { return 2 + len(on) }
	var kids []any
	for _, sign := range signsOf(40, 40, 40, 40, 20, 20) {
		kids = append(kids, sign, add(leafPage(next(), sign, "")))
	}
	first := add(innerPage(next(), 2, kids...))
	kids = nil
	for i, size := range []int{40, 40, 40, 40, 32} {
		sign := padded(string(rune('n'+i)), size)
		leaf := add(leafPage(next(), sign, ""))
		kids = append(kids, sign, add(innerPage(next(), leaf)))
	}
	root := add(innerPage(next(), first, kids...))
	s := impl.Super{Gen: 1, Root: root, Used: root + 1}
	d := laidWhole(t, 64, s, on...)
	d, s = updated(t, d, s, putOf("dd", vals(25)))
	checkShape(t, "three cuts", d, s, "{{{[a b c] dd:[dd] f:[f] g:[g] h:[h] i:[i]} j:{[j] k:[k]} n:{[n]} o:{[o]} p:{[p]}} q:{{[q]} r:{[r]}}}")
}

// Behind a Del: a leaf of SmallBody bytes stays, a smaller one is joined if it fits.
func TestSmallLeaves(t *testing.T) {
	for _, c := range []struct {
		name  string
		left  int // bytes of a leaf without its last entry
		right int
		del   string
		want  string
	}{
		{"the right one has SmallBody bytes", 100, 60, "z", "{[a b] m:[m]}"},
		{"the right one is just below", 100, 59, "z", "[a b m]"},
		{"the left one has SmallBody bytes", 60, 100, "b", "{[a] m:[m z]}"},
		{"the left one is just below", 59, 100, "b", "[a m z]"},
		{"a small one on the left is no reason", 50, 60, "z", "{[a b] m:[m]}"},
		{"a small one on the right is no reason", 60, 50, "b", "{[a] m:[m z]}"},
	} {
		s := impl.Super{Gen: 1, Root: 4, Used: 5}
		left, right := padded("a", 38), padded("m", 38)
		d := laidWhole(t, 16, s, innerPage(4, 2, "m", 3),
			leafPage(2, left, vals(c.left-40), "b", ""), leafPage(3, right, vals(c.right-40), "z", ""))
		d, s = updated(t, d, s, delOf(c.del))
		checkShape(t, c.name, d, s, c.want)
	}
}

// filled gives a leaf of so many bytes, all keys beginning with a letter.
func filled(id int, letter string, size int) laidPage {
	var out []string
	for i := 1; size > 0; i++ {
		here := min(size, 72)
		if rest := size - here; rest > 0 && rest < 4 {
			here -= 4
		}
		out = append(out, letter+fmt.Sprint(i), vals(here-4))
		size -= here
	}
	return leafPage(id, out...)
}

func TestPartnersThatFit(t *testing.T) {
	for _, c := range []struct {
		name                string
		front, node, behind int // bytes behind the Del
		want                string
	}{
		{"MaxBody bytes with the one in front", 200, 40, 240, "{[a1 a2 a3 m1] x1:[x1 x2 x3 x4]}"},
		{"one more", 201, 40, 240, "{[a1 a2 a3] m:[m1] x1:[x1 x2 x3 x4]}"},
		{"the one behind is no partner", 201, 40, 20, "{[a1 a2 a3] m:[m1] x1:[x1]}"},
		{"the one in front is taken though both fit", 100, 40, 20, "{[a1 a2 m1] x1:[x1]}"},
	} {
		s := impl.Super{Gen: 1, Root: 5, Used: 6}
		node := filled(3, "m", c.node)
		node.body = append([]byte("\x01m\x00"), node.body...)
		d := laidWhole(t, 16, s, innerPage(5, 2, "m", 3, "x1", 4), filled(2, "a", c.front), node, filled(4, "x", c.behind))
		d, s = updated(t, d, s, delOf("m"))
		checkShape(t, c.name, d, s, c.want)
	}
	for _, c := range []struct {
		name         string
		node, behind int
		want         string
	}{
		{"the first kid and MaxBody bytes", 40, 200, "{[a1 m1 m2 m3] x:[x]}"},
		{"the first kid and one more", 40, 201, "{[a1] m:[m1 m2 m3] x:[x]}"},
	} {
		s := impl.Super{Gen: 1, Root: 5, Used: 6}
		node := filled(2, "a", c.node)
		node.body = append([]byte("\x01a\x00"), node.body...)
		d := laidWhole(t, 16, s, innerPage(5, 2, "m", 3, "x", 4), node, filled(3, "m", c.behind), leafPage(4, "x", ""))
		d, s = updated(t, d, s, delOf("a"))
		checkShape(t, c.name, d, s, c.want)
	}
}

// Two leaves that become one leave their sign behind, the left one's stays.
func TestJoinedLeavesKeepTheLeftSign(t *testing.T) {
	s := impl.Super{Gen: 1, Root: 6, Used: 7}
	d := laidWhole(t, 16, s, innerPage(6, 2, "b", 3, "f", 4, "p", 5),
		leafPage(2, "a", ""), leafPage(3, "c", "", "d", ""), leafPage(4, "g", "", "h", ""), leafPage(5, "q", ""))
	e, next := updated(t, d, s, delOf("g"))
	checkShape(t, "joined", e, next, "{[a] b:[c d h] p:[q]}")
	ops, _, _ := impl.Update(d, s, []impl.Change{delOf("g")})
	if got := writtenPages(t, ops); got != "7 8 9 sync 0 sync" {
		t.Errorf("pages in the order %s", got)
	}
	checkList(t, "joined", e, next, []int{3, 4, 6}, []int{9})
}

func TestEmptiedNodes(t *testing.T) {
	lay := func() (impl.Disk, impl.Super) {
		s := impl.Super{Gen: 1, Root: 5, Used: 6}
		return laidWhole(t, 16, s, innerPage(5, 2, "d", 3, "h", 4), leafPage(2, "a", vals(70)), leafPage(3, "d", vals(70)), leafPage(4, "h", vals(70))), s
	}
	for _, c := range []struct {
		keys []string
		want string
	}{
		{[]string{"a"}, "{[d] h:[h]}"}, {[]string{"d"}, "{[a] h:[h]}"}, {[]string{"h"}, "{[a] d:[d]}"},
		{[]string{"a", "d"}, "[h]"}, {[]string{"d", "a"}, "[h]"}, {[]string{"h", "a"}, "[d]"}, {[]string{"d", "h"}, "[a]"},
		{[]string{"a", "d", "h"}, "-"}, {[]string{"h", "d", "a"}, "-"},
	} {
		d, s := lay()
		var changes []impl.Change
		for _, key := range c.keys {
			changes = append(changes, delOf(key))
		}
		d, s = updated(t, d, s, changes...)
		checkShape(t, fmt.Sprint(c.keys), d, s, c.want)
	}
	d, s := lay()
	d, s = updated(t, d, s, delOf("a"), putOf("a", ""), putOf("dd", ""))
	checkShape(t, "a key below the first one's old sign", d, s, "{[a d dd] h:[h]}")
}

// When the root's last kid becomes the root it keeps its page, and nothing is
// written but the list and the superblock.
func TestKidBecomesRootWithItsPage(t *testing.T) {
	s := impl.Super{Gen: 1, Root: 4, Used: 5}
	d := laidWhole(t, 16, s, innerPage(4, 2, "d", 3), leafPage(2, "a", vals(70)), leafPage(3, "d", vals(70)))
	ops, next, code := impl.Update(d, s, []impl.Change{delOf("a")})
	if code != 0 || next != (impl.Super{Gen: 2, Root: 3, Used: 6, Free: 5}) || writtenPages(t, ops) != "5 sync 0 sync" {
		t.Errorf("%v, code %d, %s", next, code, writtenPages(t, ops))
	}
	d, s = updated(t, d, s, delOf("a"))
	checkShape(t, "the kid", d, s, "[d]")
	checkList(t, "the kid", d, s, []int{2, 4}, []int{5})
}

// Roots and inner nodes with one kid, as no Update makes them.
func TestThinTrees(t *testing.T) {
	s := impl.Super{Gen: 1, Root: 2, Used: 5}
	d := laidWhole(t, 16, s, innerPage(2, 3), innerPage(3, 4), leafPage(4, "a", "", "b", ""))
	if ops, next, code := impl.Update(d, s, []impl.Change{delOf("c")}); code != 0 || next != s || len(ops) != 0 {
		t.Errorf("a Del of nothing: %v, code %d", next, code)
	}
	e, next := updated(t, d, s, putOf("c", ""))
	checkShape(t, "a put", e, next, "{{[a b c]}}")
	e, next = updated(t, d, s, delOf("b"))
	checkShape(t, "a Del", e, next, "[a]")
	e, next = updated(t, d, s, delOf("b"), delOf("a"))
	checkShape(t, "two Dels", e, next, "-")

	s = impl.Super{Gen: 1, Root: 2, Used: 7}
	d = laidWhole(t, 16, s, innerPage(2, 3, "d", 4), innerPage(3, 5), innerPage(4, 6), leafPage(5, "a", ""), leafPage(6, "d", ""))
	e, next = updated(t, d, s, delOf("a"))
	checkShape(t, "an inner node without kids", e, next, "[d]")
	if next.Root != 6 {
		t.Errorf("the leaf has not kept its page: %v", next)
	}
	e, next = updated(t, d, s, delOf("d"))
	checkShape(t, "the last inner node without kids", e, next, "[a]")
}

// twoInner lays a root with two inner kids, the right one's sign padded to size;
// all leaves are too great to be joined, and have two entries.
func twoInner(t *testing.T, size int, left, right []int) (impl.Disk, impl.Super) {
	t.Helper()
	var on []laidPage
	add := func(letter string, sizes []int) int {
		var ids []any
		for i, size := range append([]int{1}, sizes...) {
			name := letter
			if i > 0 {
				name += string(rune('a' + i))
			}
			on = append(on, leafPage(2+len(on), padded(name, 40), vals(70), padded(name+"0", 40), vals(70)))
			ids = append(ids, padded(name, size), 1+len(on))
		}
		on = append(on, innerPage(2+len(on), ids[1].(int), ids[2:]...))
		return 1 + len(on)
	}
	a, m := add("a", left), add("m", right)
	root := 2 + len(on)
	on = append(on, innerPage(root, a, padded("m", size), m))
	s := impl.Super{Gen: 1, Root: root, Used: root + 1}
	return laidWhole(t, 64, s, on...), s
}

// An inner node on the way of a Del is joined too, though it lost no kid.
func TestSmallInnerNodes(t *testing.T) {
	for _, c := range []struct {
		name        string
		sign        int
		left, right []int
		del         string
		want        string
	}{
		{"both small, Del on the right", 1, []int{2}, []int{2}, "m0", "{[a a0] ab:[ab ab0] m:[m] mb:[mb mb0]}"},
		{"both small, Del on the left", 1, []int{2}, []int{2}, "ab0", "{[a a0] ab:[ab] m:[m m0] mb:[mb mb0]}"},
		{"SmallBody bytes", 1, []int{2}, []int{40, 6}, "m0", "{{[a a0] ab:[ab ab0]} m:{[m] mb:[mb mb0] mc:[mc mc0]}}"},
		{"just below", 1, []int{2}, []int{40, 5}, "m0", "{[a a0] ab:[ab ab0] m:[m] mb:[mb mb0] mc:[mc mc0]}"},
		{"together MaxBody bytes", 1, []int{40, 40, 40, 40, 38}, []int{2}, "m0", "{[a a0] ab:[ab ab0] ac:[ac ac0] ad:[ad ad0] ae:[ae ae0] af:[af af0] m:[m] mb:[mb mb0]}"},
		{"one more", 1, []int{40, 40, 40, 40, 39}, []int{2}, "m0", "{{[a a0] ab:[ab ab0] ac:[ac ac0] ad:[ad ad0] ae:[ae ae0] af:[af af0]} m:{[m] mb:[mb mb0]}}"},
		{"one more in the sign between", 2, []int{40, 40, 40, 40, 38}, []int{2}, "m0", "{{[a a0] ab:[ab ab0] ac:[ac ac0] ad:[ad ad0] ae:[ae ae0] af:[af af0]} m:{[m] mb:[mb mb0]}}"},
		{"the first kid, together MaxBody bytes", 1, []int{2}, []int{40, 40, 40, 40, 38}, "a0", "{[a] ab:[ab ab0] m:[m m0] mb:[mb mb0] mc:[mc mc0] md:[md md0] me:[me me0] mf:[mf mf0]}"},
		{"the first kid, one more", 1, []int{2}, []int{40, 40, 40, 40, 39}, "a0", "{{[a] ab:[ab ab0]} m:{[m m0] mb:[mb mb0] mc:[mc mc0] md:[md md0] me:[me me0] mf:[mf mf0]}}"},
	} {
		d, s := twoInner(t, c.sign, c.left, c.right)
		d, s = updated(t, d, s, delOf(padded(c.del, 40)))
		checkShape(t, c.name, d, s, c.want)
	}
}

// chain lays a tree of so many pages, each the only kid of the one before it,
// with the entry a, and behind it a free list with so many free pages, if any.
func chain(t *testing.T, n, free, pages int) (impl.Disk, impl.Super) {
	t.Helper()
	on := []laidPage{leafPage(n+1, "a", "")}
	for id := 2; id <= n; id++ {
		on = append(on, innerPage(id, id+1))
	}
	s := impl.Super{Gen: 1, Root: 2, Used: n + 2}
	if free > 0 {
		s.Free, s.Used = n+2, n+3+free
		on = append(on, listPage(n+2, 0, numbers(n+3, n+2+free)...))
	}
	return laidWhole(t, pages, s, on...), s
}

func TestNewFreeList(t *testing.T) {
	for _, c := range []struct {
		n, free  int
		ids, own []int
		used     int
	}{
		{1, 0, []int{2}, []int{3}, 4},
		{58, 0, numbers(2, 59), []int{60}, 61},
		{59, 0, numbers(2, 60), []int{61}, 62},
		{60, 0, numbers(2, 61), []int{62, 63}, 64},
		{118, 0, numbers(2, 119), []int{120, 121}, 122},
		{119, 0, numbers(2, 120), []int{121, 122, 123}, 124},
		{1, 1, []int{2, 3}, []int{4}, 5},
		{1, 2, []int{2, 3, 5}, []int{4}, 6},
		{58, 1, numbers(2, 60), []int{61}, 62},
		{58, 2, numbers(2, 60), []int{61, 62}, 63},
		{58, 3, append(numbers(2, 60), 63), []int{61, 62}, 64},
		{59, 1, numbers(2, 61), []int{62, 63}, 64},
		{59, 2, numbers(2, 61), []int{62, 63}, 64},
		{117, 2, numbers(2, 119), []int{120, 121}, 122},
		{117, 3, numbers(2, 119), []int{120, 121, 122}, 123},
	} {
		d, s := chain(t, c.n, c.free, 200)
		name := fmt.Sprintf("%d pages, %d free", c.n, c.free)
		d, s = updated(t, d, s, delOf("a"))
		if want := (impl.Super{Gen: 2, Used: c.used, Free: c.own[0]}); s != want {
			t.Errorf("%s: %v, not %v", name, s, want)
		}
		checkList(t, name, d, s, c.ids, c.own)
		for i, id := range c.own {
			_, body, _ := impl.ReadPage(d, id)
			if here := max(0, min(59, len(c.ids)-59*i)); len(body) != 4+4*here {
				t.Errorf("%s: page %d of the list has %d bytes", name, i, len(body))
			}
		}
	}
}

// The pages of a list are ids of the next one, those of an empty page too.
func TestUpdateBehindListWithEmptyPage(t *testing.T) {
	d, s := chain(t, 58, 2, 200)
	d, s = updated(t, d, s, delOf("a"))
	d, s = updated(t, d, s, putOf("x", ""))
	if s != (impl.Super{Gen: 3, Root: 2, Used: 63, Free: 3}) {
		t.Errorf("%v", s)
	}
	checkList(t, "behind", d, s, numbers(4, 62), []int{3})
}

func TestRoom(t *testing.T) {
	code := func(d impl.Disk, s impl.Super, changes ...impl.Change) int {
		ops, next, code := impl.Update(d, s, changes)
		if code != 0 && (len(ops) != 0 || next != (impl.Super{})) {
			t.Errorf("code %d beside %v", code, next)
		}
		return code
	}
	for pages, want := range map[int]int{2: 3, 3: 0} {
		d, s := emptyStore(t, pages)
		if got := code(d, s, putOf("a", "")); got != want {
			t.Errorf("a leaf on %d pages: %d", pages, got)
		}
	}
	for pages, want := range map[int]int{3: 3, 4: 3, 5: 0} {
		d, s := emptyStore(t, pages)
		d, s = updated(t, d, s, putOf("a", ""))
		if got := code(d, s, putOf("a", "")); got != want {
			t.Errorf("a leaf and a list on %d pages: %d", pages, got)
		}
	}
	for _, c := range []struct{ n, free, pages, want int }{
		{59, 0, 61, 3}, {59, 0, 62, 0}, {60, 0, 63, 3}, {60, 0, 64, 0}, {59, 1, 63, 3}, {59, 1, 64, 0}, {58, 1, 62, 0}, {58, 2, 63, 0},
	} {
		d, s := chain(t, c.n, c.free, c.pages)
		if got := code(d, s, delOf("a")); got != c.want {
			t.Errorf("%v: %d", c, got)
		}
	}
	d, s := emptyStore(t, 2)
	if got := code(d, s, delOf("a")); got != 0 {
		t.Errorf("nothing on a full disk: %d", got)
	}
}

// A disk of the greatest size is filled until there is no room, and emptied.
func TestFullDisk(t *testing.T) {
	d, s := emptyStore(t, 1024)
	filled := 0
	for {
		var changes []impl.Change
		for i := range 200 {
			changes = append(changes, putOf(padded(fmt.Sprintf("k%05d", (filled+i)*7919%99991), 40), vals(70)))
		}
		if _, _, code := impl.Update(d, s, changes); code == 3 {
			break
		}
		d, s = updated(t, d, s, changes...)
		filled += 200
	}
	if filled < 400 || s.Used < 700 {
		t.Errorf("only %d entries, %v", filled, s)
	}
	for filled > 0 {
		var changes []impl.Change
		for _, e := range entriesOf(t, d, s.Root)[:200] {
			changes = append(changes, delOf(e.Key))
		}
		d, s = updated(t, d, s, changes...)
		filled -= 200
	}
	checkShape(t, "emptied", d, s, "-")
}

func TestUpdateCodes(t *testing.T) {
	d, s := emptyStore(t, 8)
	some := func(n int, c impl.Change) []impl.Change { return slices.Repeat([]impl.Change{c}, n) }
	bad := []impl.Change{{}}
	for _, c := range []struct {
		name    string
		s       impl.Super
		changes []impl.Change
		code    int
	}{
		{"400 changes", s, some(400, putOf("a", "1")), 0},
		{"401 changes", s, some(401, putOf("a", "1")), 2},
		{"401 Dels of nothing", s, some(401, delOf("a")), 2},
		{"no key", s, []impl.Change{putOf("", "1")}, 2},
		{"a Del of no key", s, []impl.Change{delOf("")}, 2},
		{"a key of 41 bytes", s, []impl.Change{putOf(padded("k", 41), "")}, 2},
		{"a Del with a key of 41 bytes", s, []impl.Change{delOf(padded("k", 41))}, 2},
		{"a key of 296 bytes", s, []impl.Change{putOf(padded("k", 296), "")}, 2},
		{"a value of 71 bytes", s, []impl.Change{putOf("k", vals(71))}, 2},
		{"a Val beside Del", s, []impl.Change{{Key: "k", Val: "v", Del: true}}, 2},
		{"a wrong change behind a right one", s, []impl.Change{putOf("a", ""), putOf("b", ""), {}}, 2},
		{"Gen MaxGen", impl.Super{Gen: impl.MaxGen, Used: 2}, nil, 1},
		{"Gen MaxGen and a put", impl.Super{Gen: impl.MaxGen, Used: 2}, []impl.Change{putOf("a", "")}, 1},
		{"Gen MaxGen and wrong changes", impl.Super{Gen: impl.MaxGen, Used: 2}, bad, 1},
		{"not whole", impl.Super{Gen: 1, Used: 3}, nil, 1},
		{"not whole and wrong changes", impl.Super{Gen: 1, Used: 3}, bad, 1},
		{"Gen 0", impl.Super{Used: 2}, nil, 1},
		{"a Root behind Used", impl.Super{Gen: 1, Used: 2, Root: 2}, nil, 1},
		{"a Free behind Used", impl.Super{Gen: 1, Used: 2, Free: 2}, nil, 1},
		{"the Gen is not looked for on the disk", impl.Super{Gen: 7, Used: 2}, []impl.Change{putOf("a", "")}, 0},
	} {
		before := slices.Clone(c.changes)
		ops, next, code := impl.Update(d, c.s, c.changes)
		if code != c.code || code != 0 && (len(ops) != 0 || next != (impl.Super{})) {
			t.Errorf("%s: code %d, %v, %d ops", c.name, code, next, len(ops))
		}
		if !slices.Equal(c.changes, before) {
			t.Errorf("%s: the changes were written into", c.name)
		}
	}
	full, s := emptyStore(t, 2)
	if _, _, code := impl.Update(full, s, []impl.Change{putOf("a", ""), {}}); code != 2 {
		t.Errorf("a wrong change and no room: %d", code)
	}
}

func TestLastGen(t *testing.T) {
	d, s := laidWhole(t, 8, impl.Super{Gen: impl.MaxGen - 1, Used: 2}), impl.Super{Gen: impl.MaxGen - 1, Used: 2}
	d, s = updated(t, d, s, putOf("a", ""))
	if s.Gen != impl.MaxGen {
		t.Errorf("%v", s)
	}
	if best, ok := impl.BestSuper(d); !ok || best != s {
		t.Errorf("%v", best)
	}
	if _, _, code := impl.Update(d, s, nil); code != 1 {
		t.Errorf("code %d", code)
	}
}

func TestUpdateLeavesItsArguments(t *testing.T) {
	d, s := chain(t, 58, 2, 200)
	d = played(t, d, pageOps(t, 100, impl.KindLeaf, nil)...)
	changes := []impl.Change{putOf("b", vals(70)), putOf("c", vals(70)), putOf("d", vals(70)), putOf("e", vals(70)), delOf("a"), delOf("x")}
	disk, given := deepCopy(d), slices.Clone(changes)
	ops, _, code := impl.Update(d, s, changes)
	if code != 0 {
		t.Fatalf("code %d", code)
	}
	checkKept(t, "disk", d, disk)
	checkKept(t, "changes", changes, given)
	checkApart(t, "Update", []any{ops}, d, changes)
	again, _, _ := impl.Update(d, s, changes)
	if !sameOps(ops, again) {
		t.Error("the same call gives other ops")
	}
	for i := range ops {
		for k := range ops[i].Data {
			ops[i].Data[k] = 255
		}
	}
	checkKept(t, "disk behind its ops", d, disk)
}

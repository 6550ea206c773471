package tests

import (
	"fmt"
	"math/rand"
	"slices"
	"strings"
	"testing"

	"loop.example/s01906/impl"
)

// modelNode is a node told plainly: a value that no change writes into, so each
// change makes new ones on its way.
type modelNode struct {
	page    int
	sign    string
	leaf    bool
	entries []impl.Entry
	kids    []modelNode
}

func modelTree(t *testing.T, d impl.Disk, page int, sign string) modelNode {
	t.Helper()
	entries, signs, kids := readNode(t, d, page)
	n := modelNode{page: page, sign: sign, leaf: kids == nil, entries: entries}
	for i, kid := range kids {
		n.kids = append(n.kids, modelTree(t, d, kid, signs[i]))
	}
	return n
}

func (n modelNode) body() []byte {
	var b []byte
	for _, e := range n.entries {
		b = slices.Concat(b, text(e.Key), text(e.Val))
	}
	for i, k := range n.kids {
		if i > 0 {
			b = append(b, text(k.sign)...)
		}
		b = append(b, u32(k.page)...)
	}
	return b
}

func (n modelNode) kidOf(key string) int {
	at := 0
	for i, k := range n.kids {
		if i > 0 && k.sign <= key {
			at = i
		}
	}
	return at
}

// with gives a fresh node with the same sign.
func (n modelNode) with(entries []impl.Entry, kids []modelNode) modelNode {
	return modelNode{sign: n.sign, leaf: n.leaf, entries: entries, kids: kids}
}

func withoutSign(kids []modelNode) []modelNode {
	kids = slices.Clone(kids)
	if len(kids) > 0 {
		kids[0].sign = ""
	}
	return kids
}

// put gives the node behind a put, or the two that it is cut into.
func (n modelNode) put(e impl.Entry) []modelNode {
	if n.leaf {
		n = n.with(entriesAfter(n.entries, []impl.Change{putOf(e.Key, e.Val)}), nil)
	} else {
		at := n.kidOf(e.Key)
		n = n.with(nil, slices.Concat(n.kids[:at], n.kids[at].put(e), n.kids[at+1:]))
	}
	if len(n.body()) <= 240 {
		return []modelNode{n}
	}
	var left, right modelNode
	if n.leaf {
		left = n.with(nil, nil)
		for i := range n.entries {
			if more := n.with(n.entries[:i], nil); len(more.body()) <= 240 {
				left = more
			}
		}
		right = n.with(n.entries[len(left.entries):], nil)
		right.sign = right.entries[0].Key
	} else {
		signs := len(n.kids) - 1
		for keep := range signs - 1 {
			if more := n.with(nil, n.kids[:1+keep]); len(more.body()) <= 240 {
				left = more
			}
		}
		right = n.with(nil, withoutSign(n.kids[len(left.kids):]))
		right.sign = n.kids[len(left.kids)].sign
	}
	return []modelNode{left, right}
}

// del gives the node behind a Del, or false when the key is not there.
func (n modelNode) del(key string) (modelNode, bool) {
	if n.leaf {
		rest := entriesAfter(n.entries, []impl.Change{delOf(key)})
		return n.with(rest, nil), len(rest) < len(n.entries)
	}
	at := n.kidOf(key)
	k, ok := n.kids[at].del(key)
	if !ok {
		return n, false
	}
	kids := slices.Clone(n.kids)
	kids[at] = k
	if len(k.entries)+len(k.kids) == 0 {
		return n.with(nil, withoutSign(slices.Concat(kids[:at], kids[at+1:]))), true
	}
	if len(k.body()) >= 60 || len(kids) == 1 {
		return n.with(nil, kids), true
	}
	at = max(0, at-1)
	l, r := kids[at], kids[at+1]
	both := slices.Clone(r.kids)
	if len(both) > 0 {
		both[0].sign = r.sign
	}
	one := l.with(slices.Concat(l.entries, r.entries), slices.Concat(l.kids, both))
	if len(one.body()) > 240 {
		return n.with(nil, kids), true
	}
	return n.with(nil, slices.Concat(kids[:at], []modelNode{one}, kids[at+2:])), true
}

// change gives the root behind a change, nil for the empty tree.
func modelChange(root *modelNode, c impl.Change) (*modelNode, bool) {
	if !c.Del {
		e := impl.Entry{Key: c.Key, Val: c.Val}
		if root == nil {
			return &modelNode{leaf: true, entries: []impl.Entry{e}}, true
		}
		parts := root.put(e)
		if len(parts) == 2 {
			return &modelNode{kids: parts}, true
		}
		return &parts[0], true
	}
	if root == nil {
		return nil, false
	}
	n, ok := root.del(c.Key)
	if !ok {
		return root, false
	}
	if len(n.entries)+len(n.kids) == 0 {
		return nil, true
	}
	for len(n.kids) == 1 {
		n = n.kids[0]
	}
	return &n, true
}

// modelPages is the taking of pages: free ones first, then those behind Used.
type modelPages struct {
	free []int
	used int
	ops  []impl.Op
	have map[int]bool
}

func (p *modelPages) take() int {
	id := p.used
	if len(p.free) > 0 {
		id = slices.Min(p.free)
		p.free = slices.DeleteFunc(p.free, func(x int) bool { return x == id })
	} else {
		p.used++
	}
	return id
}

func (p *modelPages) settle(n *modelNode) {
	for i := range n.kids {
		p.settle(&n.kids[i])
	}
	if n.page == 0 {
		kind := impl.KindInner
		if n.leaf {
			kind = impl.KindLeaf
		}
		n.page = p.take()
		ops, _ := impl.PageOps(n.page, kind, n.body())
		p.ops = append(p.ops, ops...)
	}
	p.have[n.page] = true
}

// modelUpdate is Update for a whole disk and right changes.
func modelUpdate(t *testing.T, d impl.Disk, s impl.Super, changes []impl.Change) ([]impl.Op, impl.Super, int) {
	t.Helper()
	var root *modelNode
	if s.Root != 0 {
		n := modelTree(t, d, s.Root, "")
		root = &n
	}
	changed := false
	for _, c := range changes {
		next, did := modelChange(root, c)
		root, changed = next, changed || did
	}
	if !changed {
		return nil, s, 0
	}
	old, _ := impl.TreePages(d, s.Root)
	free, own, _ := impl.FreeList(d, s)
	p := &modelPages{free: free, used: s.Used, have: map[int]bool{}}
	next := impl.Super{Gen: s.Gen + 1}
	if root != nil {
		p.settle(root)
		next.Root = root.page
	}
	ids := slices.Clone(own)
	for _, id := range old {
		if !p.have[id] {
			ids = append(ids, id)
		}
	}
	var list []int
	for len(ids)+len(p.free) > 59*len(list) {
		list = append(list, p.take())
	}
	ids = append(ids, p.free...)
	slices.Sort(ids)
	for i, id := range list {
		after := append(slices.Clone(list), 0)[i+1]
		from := min(59*i, len(ids))
		body := listPage(id, after, ids[from:min(from+59, len(ids))]...).body
		ops, _ := impl.PageOps(id, impl.KindFree, body)
		p.ops = append(p.ops, ops...)
	}
	if p.used > len(d.Safe)/4 {
		return nil, impl.Super{}, 3
	}
	next.Used, next.Free = p.used, append(slices.Clone(list), 0)[0]
	p.ops = append(p.ops, sync())
	ops, _ := impl.SuperOps(next)
	return append(append(p.ops, ops...), sync()), next, 0
}

// randomChange gives keys of one to 40 bytes of which many come again.
func randomChange(r *rand.Rand, names, longest, dels int) impl.Change {
	name := fmt.Sprint(r.Intn(names))
	key := name + strings.Repeat("k", (len(name)*7+int(name[0])*13)%longest)
	if r.Intn(10) < dels {
		return delOf(key)
	}
	return putOf(key, vals(r.Intn(71)))
}

func TestUpdateAgainstModel(t *testing.T) {
	for i, c := range []struct{ pages, names, longest, most, dels, rounds int }{
		{64, 12, 1, 4, 5, 120},
		{200, 60, 1, 30, 4, 40},
		{400, 300, 37, 40, 4, 40},
		{400, 300, 37, 40, 6, 40},
		{1024, 900, 37, 400, 2, 12},
		{1024, 2000, 37, 400, 5, 12},
		{16, 40, 37, 10, 5, 120},
		{40, 80, 20, 25, 6, 80},
	} {
		r := rand.New(rand.NewSource(int64(i)))
		d, s := emptyStore(t, c.pages)
		full := 0
		for round := range c.rounds {
			dels := c.dels
			if round%8 >= 6 { // now and then nearly all goes
				dels = 9
			}
			var changes []impl.Change
			for range 1 + r.Intn(c.most) {
				changes = append(changes, randomChange(r, c.names, c.longest, dels))
			}
			ops, next, code := impl.Update(d, s, changes)
			wantOps, want, wantCode := modelUpdate(t, d, s, changes)
			if code != wantCode || next != want || !sameOps(ops, wantOps) {
				t.Fatalf("case %d, round %d: code %d, %v with %d ops, not %d, %v with %d", i, round, code, next, len(ops), wantCode, want, len(wantOps))
			}
			if code == 3 {
				full++
				continue
			}
			d, s = updated(t, d, s, changes...)
		}
		t.Logf("case %d: %v, %d without room, tree of %d", i, s, full, len(entriesOf(t, d, s.Root)))
	}
}

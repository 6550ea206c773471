package tests

import (
	"slices"
	"testing"

	"loop.example/s01906/impl"
)

func TestEntriesOfValidTrees(t *testing.T) {
	long, full := padded("l", 40), vals(70)
	for _, c := range []struct {
		name  string
		root  int
		pages []int
		keys  []string
		on    []laidPage
	}{
		{"the empty tree", 0, nil, nil, nil},
		{"one leaf", 2, []int{2}, []string{"a"}, []laidPage{leafPage(2, "a", "")}},
		{"keys and values of all lengths", 5, []int{5}, []string{"a", long}, []laidPage{leafPage(5, "a", "", long, full)}},
		{"keys of any bytes", 2, []int{2}, []string{"\x00", "\x00\x00", "a\xff", "\xff"}, []laidPage{leafPage(2, "\x00", "\x00", "\x00\x00", "", "a\xff", "\x80", "\xff", "")}},
		{"a body of MaxBody bytes", 2, []int{2}, []string{"a", "b", "c", "d"}, []laidPage{leafPage(2, "a", vals(57), "b", vals(57), "c", vals(57), "d", vals(57))}},
		{"an inner page with one kid", 2, []int{2, 3}, []string{"a"}, []laidPage{innerPage(2, 3), leafPage(3, "a", "")}},
		{"signs that are no keys", 7, []int{2, 4, 6, 7}, []string{"b", "d", "dd", "g"}, []laidPage{innerPage(7, 6, "c", 2, "f", 4), leafPage(6, "b", ""), leafPage(2, "d", "", "dd", ""), leafPage(4, "g", "")}},
		{"a sign right above the key in front", 2, []int{2, 3, 4}, []string{"a", "b"}, []laidPage{innerPage(2, 3, "a\x00", 4), leafPage(3, "a", ""), leafPage(4, "b", "")}},
		{"a sign of 40 bytes", 2, []int{2, 3, 4}, []string{"a", long}, []laidPage{innerPage(2, 3, long, 4), leafPage(3, "a", ""), leafPage(4, long, "")}},
		{"signs above and below", 2, []int{2, 3, 4, 5, 6, 7, 8}, []string{"a", "b", "c", "d"}, []laidPage{innerPage(2, 3, "c", 4), innerPage(3, 5, "b", 6), innerPage(4, 7, "d", 8), leafPage(5, "a", ""), leafPage(6, "b", ""), leafPage(7, "c", ""), leafPage(8, "d", "")}},
	} {
		d := laid(t, 16, c.on...)
		before := deepCopy(d)
		all, ok := impl.Entries(d, c.root)
		pages, pok := impl.TreePages(d, c.root)
		var keys []string
		for _, e := range all {
			keys = append(keys, e.Key)
		}
		if !ok || !pok || !slices.Equal(keys, c.keys) || !slices.Equal(pages, c.pages) {
			t.Errorf("%s: entries %q (%v), pages %v (%v)", c.name, all, ok, pages, pok)
		}
		checkKept(t, c.name, d, before)
		checkApart(t, c.name, []any{all, pages}, d)
	}
}

func TestEntriesGiveValues(t *testing.T) {
	d := laid(t, 8, innerPage(4, 3, "b", 2), leafPage(3, "a", "x"), leafPage(2, "b", "", "c", vals(70)))
	want := []impl.Entry{{Key: "a", Val: "x"}, {Key: "b"}, {Key: "c", Val: vals(70)}}
	if got, ok := impl.Entries(d, 4); !ok || !slices.Equal(got, want) {
		t.Errorf("%v %v", got, ok)
	}
}

func TestTreesThatAreNotValid(t *testing.T) {
	a, b, c := leafPage(3, "a", ""), leafPage(4, "b", ""), leafPage(5, "c", "")
	body := func(kind int, bytes string) laidPage { return laidPage{2, kind, []byte(bytes)} }
	for name, on := range map[string][]laidPage{
		"no page":                        nil,
		"a super page":                   {body(impl.KindSuper, "\x01a\x00")},
		"a super page like an inner one": {body(impl.KindSuper, "\x03\x00\x00\x00"), a},
		"a page of the free list":        {listPage(2, 0)},
		"an empty leaf":                  {leafPage(2)},
		"an empty leaf below":            {innerPage(2, 3), leafPage(3)},
		"an empty leaf behind another":   {innerPage(2, 3, "b", 4), a, leafPage(4)},
		"an empty inner page":            {body(impl.KindInner, "")},
		"a key of no byte":               {body(impl.KindLeaf, "\x00\x01a")},
		"a key of 41 bytes":              {leafPage(2, padded("k", 41), "")},
		"a value of 71 bytes":            {leafPage(2, "k", vals(71))},
		"a body that ends in a key":      {body(impl.KindLeaf, "\x01a\x00\x03bb")},
		"a body that ends behind a key":  {body(impl.KindLeaf, "\x01a\x00\x02bb")},
		"a body that ends in a value":    {body(impl.KindLeaf, "\x01a\x03bb")},
		"a body that ends in a kid":      {body(impl.KindInner, "\x03\x00\x00"), a},
		"a body that ends behind a sign": {body(impl.KindInner, "\x03\x00\x00\x00\x01b"), a},
		"a body that ends in a sign":     {body(impl.KindInner, "\x03\x00\x00\x00\x02b"), a},
		"a body that ends in a later kid": {
			body(impl.KindInner, "\x03\x00\x00\x00\x01b\x04\x00\x00"), a, b},
		"a sign of no byte":             {innerPage(2, 3, "", 4), a, b},
		"a sign of 41 bytes":            {innerPage(2, 3, padded("b", 41), 4), a, leafPage(4, "c", "")},
		"keys out of order":             {leafPage(2, "b", "", "a", "")},
		"a key twice":                   {leafPage(2, "a", "", "a", "")},
		"keys out of order in two":      {innerPage(2, 4, "b", 3), a, b},
		"a key twice in two":            {innerPage(2, 3, "a", 4), a, leafPage(4, "a", "")},
		"a key below its sign":          {innerPage(2, 3, "c", 4), a, b},
		"a key not below the next sign": {innerPage(2, 3, "b", 4), leafPage(3, "a", "", "b", ""), leafPage(4, "c", "")},
		"a key above the next sign":     {innerPage(2, 3, "b", 4), leafPage(3, "a", "", "bb", ""), leafPage(4, "c", "")},
		"signs out of order":            {innerPage(2, 3, "c", 4, "b", 5), a, b, c},
		"a sign twice":                  {innerPage(2, 3, "b", 4, "b", 5), a, b, c},
		"a key below a sign further up": {
			innerPage(2, 6, "b", 7), innerPage(6, 3), innerPage(7, 4, "d", 5), a, leafPage(4, "aa", ""), leafPage(5, "d", "")},
		"a key not below a sign further up": {
			innerPage(2, 6, "b", 7), innerPage(6, 3, "aa", 4), innerPage(7, 5), a, b, c},
		"a leaf reached twice":        {innerPage(2, 3, "b", 3), a},
		"the root reached again":      {innerPage(2, 2)},
		"an inner page reached twice": {innerPage(2, 6, "b", 6), innerPage(6, 3), a},
		"a round of pages":            {innerPage(2, 6), innerPage(6, 7), innerPage(7, 6)},
		"a deeper leaf behind":        {innerPage(2, 3, "b", 6), a, innerPage(6, 4), b},
		"a deeper leaf in front":      {innerPage(2, 6, "b", 4), innerPage(6, 3), a, b},
		"kid 0":                       {innerPage(2, 0)},
		"a later kid 0":               {innerPage(2, 3, "b", 0), a},
		"kid 1":                       {innerPage(2, 1), leafPage(1, "a", "")},
		"a kid behind the disk":       {innerPage(2, 16)},
		"a kid far behind the disk":   {innerPage(2, 0xffffffff)},
		"a kid of KindFree":           {innerPage(2, 6), listPage(6, 0)},
		"a kid with no page":          {innerPage(2, 3, "b", 4), a},
	} {
		d := laid(t, 16, on...)
		all, ok := impl.Entries(d, 2)
		pages, pok := impl.TreePages(d, 2)
		if ok || pok || len(all) != 0 || len(pages) != 0 {
			t.Errorf("%s: entries %q (%v), pages %v (%v)", name, all, ok, pages, pok)
		}
		if s := (impl.Super{Gen: 1, Root: 2, Used: 2 + len(on)}); impl.Whole(d, s) {
			t.Errorf("%s: whole", name)
		} else if ops, next, code := impl.Update(d, s, nil); code != 1 || len(ops) != 0 || next != (impl.Super{}) {
			t.Errorf("%s: Update %v %v, code %d", name, ops, next, code)
		}
	}
}

func TestRootsThatAreNoPages(t *testing.T) {
	d := laid(t, 8, leafPage(0, "a", ""), leafPage(1, "a", ""), leafPage(7, "a", ""))
	for _, root := range []int{-1, 1, 2, 8, 1024, 1 << 40, -1 << 62} {
		all, ok := impl.Entries(d, root)
		pages, pok := impl.TreePages(d, root)
		if ok || pok || len(all) != 0 || len(pages) != 0 {
			t.Errorf("root %d: %v %v", root, all, pages)
		}
	}
	if _, ok := impl.Entries(d, 7); !ok {
		t.Error("the last page is no root")
	}
}

// A tree as deep as the disk has pages.
func TestDeepTree(t *testing.T) {
	on := []laidPage{leafPage(1023, "a", "")}
	for id := 2; id < 1023; id++ {
		on = append(on, innerPage(id, id+1))
	}
	d := laid(t, 1024, on...)
	if pages, ok := impl.TreePages(d, 2); !ok || !slices.Equal(pages, numbers(2, 1023)) {
		t.Errorf("%d pages, %v", len(pages), ok)
	}
	if !impl.Whole(d, impl.Super{Gen: 1, Root: 2, Used: 1024}) {
		t.Error("not whole")
	}
}

func TestFreeList(t *testing.T) {
	for _, c := range []struct {
		name      string
		free      int
		ids, own  []int
		laidPages []laidPage
	}{
		{"none", 0, nil, nil, nil},
		{"no id", 2, nil, []int{2}, []laidPage{listPage(2, 0)}},
		{"one page", 4, []int{2, 3, 9}, []int{4}, []laidPage{listPage(4, 0, 2, 3, 9)}},
		{"own pages in the order of the list", 9, []int{2, 3, 5}, []int{9, 4, 8}, []laidPage{listPage(9, 4, 2), listPage(4, 8), listPage(8, 0, 3, 5)}},
		{"59 ids in a page", 90, numbers(2, 60), []int{90}, []laidPage{listPage(90, 0, numbers(2, 60)...)}},
		{"60 ids", 90, numbers(2, 61), []int{90, 91}, []laidPage{listPage(90, 91, numbers(2, 60)...), listPage(91, 0, 61)}},
		{"118 ids", 190, numbers(2, 119), []int{190, 180}, []laidPage{listPage(190, 180, numbers(2, 60)...), listPage(180, 0, numbers(61, 119)...)}},
		{"a last page without ids", 90, numbers(2, 60), []int{90, 80}, []laidPage{listPage(90, 80, numbers(2, 60)...), listPage(80, 0)}},
	} {
		d := laid(t, 200, c.laidPages...)
		s := impl.Super{Gen: 1, Used: 200, Free: c.free}
		before := deepCopy(d)
		checkList(t, c.name, d, s, c.ids, c.own)
		ids, own, _ := impl.FreeList(d, s)
		checkKept(t, c.name, d, before)
		checkApart(t, c.name, []any{ids, own}, d)
	}
}

func TestFreeListsThatAreNotValid(t *testing.T) {
	body := func(bytes string) laidPage { return laidPage{2, impl.KindFree, []byte(bytes)} }
	for name, on := range map[string][]laidPage{
		"no page":                          nil,
		"a leaf":                           {leafPage(2, "a", "")},
		"an inner page":                    {innerPage(2, 3)},
		"a super page":                     {{2, impl.KindSuper, u32(0)}},
		"no next":                          {body("")},
		"a next of three bytes":            {body("\x00\x00\x00")},
		"an id of three bytes":             {body("\x00\x00\x00\x00\x05\x00\x00")},
		"one byte behind an id":            {body("\x00\x00\x00\x00\x05\x00\x00\x00\x06")},
		"the page is its own next":         {listPage(2, 2)},
		"a page comes twice":               {listPage(2, 3, 5), listPage(3, 4, 6), listPage(4, 3, 7)},
		"an id twice":                      {listPage(2, 0, 5, 5)},
		"ids that go down":                 {listPage(2, 0, 6, 5)},
		"an id twice in two pages":         {listPage(2, 3, 5), listPage(3, 0, 5)},
		"ids that go down from the second": {listPage(2, 3, 5, 6), listPage(3, 0, 4)},
		"ids that go down behind an empty": {listPage(2, 3, 5, 6), listPage(3, 4), listPage(4, 0, 5)},
		"a next that is a leaf":            {listPage(2, 3), leafPage(3, "a", "")},
		"a next behind the disk":           {listPage(2, 8)},
		"a next far behind the disk":       {listPage(2, 0xffffffff)},
		"a next with no page":              {listPage(2, 3)},
	} {
		d := laid(t, 8, on...)
		s := impl.Super{Gen: 1, Used: 8, Free: 2}
		if ids, own, ok := impl.FreeList(d, s); ok || len(ids) != 0 || len(own) != 0 {
			t.Errorf("%s: %v %v %v", name, ids, own, ok)
		}
		if impl.Whole(d, s) {
			t.Errorf("%s: whole", name)
		}
	}
	for _, free := range []int{-1, 8, 1024, 1 << 40} {
		if _, _, ok := impl.FreeList(newDisk(t, 32), impl.Super{Gen: 1, Used: 8, Free: free}); ok {
			t.Errorf("a list at %d", free)
		}
	}
}

// 60 ids have no room in a body, so such a page can only be made of raw bytes.
func TestFreeListWithSixtyIdsInAPage(t *testing.T) {
	ids := listPage(2, 0, numbers(3, 62)...).body
	if _, ok := impl.PageOps(2, impl.KindFree, ids); ok {
		t.Error("a page with 60 ids is written")
	}
	b := summed(append([]byte{0, 0, 0, 0, 2, 0, 0, 0, impl.KindFree, 0, byte(len(ids)), 0}, ids...)[:impl.PageSize])
	d := newDisk(t, 400)
	for i := range 4 {
		d = played(t, d, impl.Op{Kind: impl.OpWrite, At: 8 + i, Data: b[64*i : 64*i+64]})
	}
	if free, _, ok := impl.FreeList(d, impl.Super{Gen: 1, Used: 63, Free: 2}); ok || len(free) != 0 {
		t.Errorf("%v %v", free, ok)
	}
}

func TestWhole(t *testing.T) {
	on := []laidPage{leafPage(3, "a", ""), listPage(4, 0, 2, 5)}
	good := impl.Super{Gen: 1, Root: 3, Used: 6, Free: 4}
	for _, c := range []struct {
		name string
		s    impl.Super
		on   []laidPage
		want bool
	}{
		{"nothing", impl.Super{Gen: 1, Used: 2}, nil, true},
		{"the greatest Gen", impl.Super{Gen: impl.MaxGen, Used: 2}, nil, true},
		{"tree and list", good, on, true},
		{"Gen 0", impl.Super{Gen: 0, Root: 3, Used: 6, Free: 4}, on, false},
		{"Gen above MaxGen", impl.Super{Gen: impl.MaxGen + 1, Root: 3, Used: 6, Free: 4}, on, false},
		{"Used too small", impl.Super{Gen: 1, Root: 3, Used: 5, Free: 4}, on, false},
		{"Used too great", impl.Super{Gen: 1, Root: 3, Used: 7, Free: 4}, on, false},
		{"no tree", impl.Super{Gen: 1, Used: 6, Free: 4}, on, false},
		{"no list", impl.Super{Gen: 1, Root: 3, Used: 6}, on, false},
		{"Used 1", impl.Super{Gen: 1, Used: 1}, nil, false},
		{"Used 0", impl.Super{Gen: 1}, nil, false},
		{"a page in none", impl.Super{Gen: 1, Used: 3}, nil, false},
		{"a page of the tree is free", good, []laidPage{leafPage(3, "a", ""), listPage(4, 0, 2, 3, 5)}, false},
		{"a page of the tree is free for one that is not", good, []laidPage{leafPage(3, "a", ""), listPage(4, 0, 3, 5)}, false},
		{"a page of the list is free", good, []laidPage{leafPage(3, "a", ""), listPage(4, 0, 2, 4, 5)}, false},
		{"page 1 is free", good, []laidPage{leafPage(3, "a", ""), listPage(4, 0, 1, 2, 5)}, false},
		{"page 0 is free", good, []laidPage{leafPage(3, "a", ""), listPage(4, 0, 0, 2, 5)}, false},
		{"page Used is free", good, []laidPage{leafPage(3, "a", ""), listPage(4, 0, 2, 5, 6)}, false},
		{"page Used is free for another", good, []laidPage{leafPage(3, "a", ""), listPage(4, 0, 2, 6)}, false},
		{"page Used is in the list", good, []laidPage{leafPage(3, "a", ""), listPage(4, 6, 2, 5), listPage(6, 0)}, false},
		{"page 1 is in the list", good, []laidPage{leafPage(3, "a", ""), listPage(4, 1, 2, 5), listPage(1, 0)}, false},
		{"page Used is in the tree", good, []laidPage{innerPage(3, 6), leafPage(6, "a", ""), listPage(4, 0, 2, 5)}, false},
		{"tree and list have the same page", impl.Super{Gen: 1, Root: 2, Used: 3, Free: 2}, []laidPage{leafPage(2, "a", "")}, false},
	} {
		d := laid(t, 8, c.on...)
		if got := impl.Whole(d, c.s); got != c.want {
			t.Errorf("%s: %v", c.name, got)
		}
	}
}

func TestWholeAndTheNumberOfPages(t *testing.T) {
	s := impl.Super{Gen: 1, Used: 8, Free: 2}
	d := laid(t, 8, listPage(2, 0, 3, 4, 5, 6, 7))
	if !impl.Whole(d, s) {
		t.Error("as many pages as Used says: not whole")
	}
	d.Safe = d.Safe[:31]
	if impl.Whole(d, s) {
		t.Error("a sector less: whole")
	}
	if _, _, code := impl.Update(d, s, nil); code != 1 {
		t.Errorf("a sector less: Update has the code %d", code)
	}
	if impl.Whole(newDisk(t, 4), impl.Super{Gen: 1, Used: 2}) {
		t.Error("a disk with one page is whole")
	}
	if impl.Whole(newDisk(t, 8), impl.Super{Gen: 1, Used: 1025, Free: 2}) {
		t.Error("Used above 1024")
	}
}

// What is pending counts as it does for ReadSector.
func TestTreeThatIsPending(t *testing.T) {
	d := laid(t, 8, leafPage(2, "a", ""), listPage(3, 0))
	d = played(t, d, pageOps(t, 2, impl.KindLeaf, leafPage(2, "b", "1").body)...)
	d = played(t, d, pageOps(t, 3, impl.KindFree, listPage(3, 0, 4).body)...)
	if all, ok := impl.Entries(d, 2); !ok || !slices.Equal(all, []impl.Entry{{Key: "b", Val: "1"}}) {
		t.Errorf("%v %v", all, ok)
	}
	s := impl.Super{Gen: 1, Root: 2, Used: 5, Free: 3}
	checkList(t, "pending", d, s, []int{4}, []int{3})
	if !impl.Whole(d, s) {
		t.Error("not whole")
	}
	torn := played(t, d, write(9, 7))
	if _, ok := impl.Entries(torn, 2); ok || impl.Whole(torn, s) {
		t.Error("a torn page is taken")
	}
}

func TestTreesOnInvalidDisks(t *testing.T) {
	for name, d := range brokenDisks(t) {
		before := deepCopy(d)
		all, ok := impl.Entries(d, 2)
		pages, pok := impl.TreePages(d, 2)
		ids, own, fok := impl.FreeList(d, impl.Super{Gen: 1, Used: 3, Free: 2})
		if ok || pok || fok || len(all)+len(pages)+len(ids)+len(own) != 0 {
			t.Errorf("%s: %v %v %v %v", name, all, pages, ids, own)
		}
		if impl.Whole(d, impl.Super{Gen: 1, Used: 2}) {
			t.Errorf("%s: whole", name)
		}
		if ops, next, code := impl.Update(d, impl.Super{Gen: 1, Used: 2}, []impl.Change{{}}); code != 1 || len(ops) != 0 || next != (impl.Super{}) {
			t.Errorf("%s: Update %v %v, code %d", name, ops, next, code)
		}
		checkKept(t, name, d, before)
	}
}

// One wrong sector, far from the pages that are asked for, spoils all of them.
func TestTreeBesideAWrongSector(t *testing.T) {
	s := impl.Super{Gen: 1, Root: 2, Used: 4, Free: 3}
	d := laidWhole(t, 8, s, leafPage(2, "a", ""), listPage(3, 0))
	d.Safe[31] = d.Safe[31][:63]
	if all, ok := impl.Entries(d, 2); ok || len(all) != 0 {
		t.Errorf("%v", all)
	}
	if pages, ok := impl.TreePages(d, 2); ok || len(pages) != 0 {
		t.Errorf("%v", pages)
	}
	if _, own, ok := impl.FreeList(d, s); ok || len(own) != 0 {
		t.Errorf("%v", own)
	}
	if impl.Whole(d, s) {
		t.Error("whole")
	}
}

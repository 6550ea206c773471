package tests

import (
	"bytes"
	"hash/crc32"
	"math"
	"math/rand"
	"testing"

	"loop.example/s01906/impl"
)

func TestCrc32(t *testing.T) {
	r := rand.New(rand.NewSource(2))
	for n := range 300 {
		b := make([]byte, n)
		r.Read(b)
		before := deepCopy(b)
		if got := impl.Crc32(b); got != int(crc32.ChecksumIEEE(b)) {
			t.Errorf("%d bytes: %d", n, got)
		}
		checkKept(t, "Crc32", b, before)
	}
	if impl.Crc32([]byte("123456789")) != 3421780262 {
		t.Errorf("the known checksum")
	}
}

// pageBytes lays a page out by hand, with any fields, and a checksum that is right.
func pageBytes(id int, kind, zero byte, size int, four [4]byte, body []byte) []byte {
	b := make([]byte, impl.PageSize)
	b[4], b[5], b[6], b[7] = byte(id), byte(id>>8), byte(id>>16), byte(id>>24)
	b[8], b[9], b[10], b[11] = kind, zero, byte(size), byte(size>>8)
	copy(b[12:], four[:])
	copy(b[16:], body)
	return summed(b)
}

func summed(b []byte) []byte {
	sum := crc32.ChecksumIEEE(b[4:])
	b[0], b[1], b[2], b[3] = byte(sum), byte(sum>>8), byte(sum>>16), byte(sum>>24)
	return b
}

// Promise 2: DecodePage of EncodePage gives kind and body.
func TestPageThereAndBack(t *testing.T) {
	r := rand.New(rand.NewSource(3))
	for _, id := range []int{0, 1, 2, 255, 256, 258, 1022, 1023} {
		for kind := impl.KindSuper; kind <= impl.KindFree; kind++ {
			for _, size := range []int{0, 1, 20, 239, 240} {
				body := make([]byte, size)
				r.Read(body)
				before := deepCopy(body)
				b, ok := impl.EncodePage(id, kind, body)
				if !ok || !bytes.Equal(b, pageBytes(id, byte(kind), 0, size, [4]byte{}, body)) {
					t.Fatalf("id %d, kind %d, %d bytes: %v %v", id, kind, size, ok, b)
				}
				page := deepCopy(b)
				k, got, ok := impl.DecodePage(id, b)
				if !ok || k != kind || !bytes.Equal(got, body) {
					t.Errorf("id %d, kind %d, %d bytes: back come %v %d %v", id, kind, size, ok, k, got)
				}
				checkApart(t, "a page", []any{b}, body)
				checkApart(t, "a body", []any{got}, b)
				checkKept(t, "body", body, before)
				checkKept(t, "page", b, page)
			}
		}
	}
}

func TestEncodePageRefusals(t *testing.T) {
	for i, c := range []struct{ id, kind, size int }{
		{-1, 2, 0}, {1024, 2, 0}, {math.MaxInt, 2, 0}, {math.MinInt, 2, 0}, {1 << 32, 2, 0},
		{2, 0, 0}, {2, 5, 0}, {2, -1, 0}, {2, 258, 0}, {2, math.MaxInt, 0},
		{2, 2, 241}, {2, 2, 256}, {2, 2, 65536}, {2, 2, 65537},
	} {
		if b, ok := impl.EncodePage(c.id, c.kind, make([]byte, c.size)); ok || len(b) != 0 {
			t.Errorf("case %d: a page", i)
		}
		if ops, ok := impl.PageOps(c.id, c.kind, make([]byte, c.size)); ok || len(ops) != 0 {
			t.Errorf("case %d: ops", i)
		}
	}
}

func refuses(t *testing.T, name string, id int, b []byte) {
	t.Helper()
	if kind, body, ok := impl.DecodePage(id, b); ok || kind != 0 || len(body) != 0 {
		t.Errorf("%s: taken as kind %d with %d bytes", name, kind, len(body))
	}
}

// Promise 2: no bytes with one bit changed are taken.
func TestPageWithOneBitChanged(t *testing.T) {
	r := rand.New(rand.NewSource(4))
	for _, size := range []int{0, 1, 77, 240} {
		body := make([]byte, size)
		r.Read(body)
		id, kind := r.Intn(1024), 1+r.Intn(4)
		b, _ := impl.EncodePage(id, kind, body)
		for bit := range 8 * len(b) {
			b[bit/8] ^= 1 << (bit % 8)
			refuses(t, "bit", id, b)
			b[bit/8] ^= 1 << (bit % 8)
		}
		if _, _, ok := impl.DecodePage(id, b); !ok {
			t.Errorf("the page itself is not taken")
		}
	}
}

// Promise 2: no other bytes are taken, even when their checksum is right.
func TestDecodePageWithRightChecksum(t *testing.T) {
	body := []byte("body")
	none := [4]byte{}
	if _, _, ok := impl.DecodePage(7, pageBytes(7, 2, 0, 4, none, body)); !ok {
		t.Errorf("a page laid out by hand")
	}
	refuses(t, "kind 0", 7, pageBytes(7, 0, 0, 4, none, body))
	refuses(t, "kind 5", 7, pageBytes(7, 5, 0, 4, none, body))
	refuses(t, "kind 255", 7, pageBytes(7, 255, 0, 4, none, body))
	refuses(t, "the byte behind the kind", 7, pageBytes(7, 2, 1, 4, none, body))
	for i := range none {
		four := none
		four[i] = 1
		refuses(t, "the four zeros", 7, pageBytes(7, 2, 0, 4, four, body))
	}
	refuses(t, "a body cut short", 7, pageBytes(7, 2, 0, 3, none, body))
	refuses(t, "241 bytes", 7, pageBytes(7, 2, 0, 241, none, bytes.Repeat([]byte{1}, 240)))
	refuses(t, "65535 bytes", 7, pageBytes(7, 2, 0, 65535, none, nil))
	refuses(t, "256 bytes more", 7, pageBytes(7, 2, 0, 256+4, none, body))
	refuses(t, "another id", 8, pageBytes(7, 2, 0, 4, none, body))
	refuses(t, "id 1024", 1024, pageBytes(1024, 2, 0, 4, none, body))
	refuses(t, "id below 0", -1, pageBytes(-1, 2, 0, 4, none, body))
	refuses(t, "id of 33 bits", 1<<32|7, pageBytes(7, 2, 0, 4, none, body))
	refuses(t, "an id of 32 bits", 7, pageBytes(7|1<<24, 2, 0, 4, none, body))
	for at := 16 + len(body); at < impl.PageSize; at++ {
		b := pageBytes(7, 2, 0, 4, none, body)
		b[at] = 1
		refuses(t, "no zero behind the body", 7, summed(b))
	}
}

func TestDecodePageOfOtherLengths(t *testing.T) {
	b, _ := impl.EncodePage(3, impl.KindLeaf, []byte("ab"))
	for n := range 256 {
		refuses(t, "too short", 3, b[:n])
	}
	refuses(t, "nil", 3, nil)
	refuses(t, "257 bytes", 3, append(bytes.Clone(b), 0))
	refuses(t, "512 bytes", 3, append(bytes.Clone(b), b...))
	refuses(t, "zeros", 0, make([]byte, 256))
	refuses(t, "255 bytes with their checksum", 3, summed(bytes.Clone(b[:255])))
	refuses(t, "257 bytes with their checksum", 3, summed(append(bytes.Clone(b), 0)))
}

func TestPageOps(t *testing.T) {
	for _, id := range []int{0, 1, 2, 512, 1023} {
		for _, size := range []int{0, 5, 240} {
			body := bytes.Repeat([]byte{7}, size)
			page, _ := impl.EncodePage(id, impl.KindInner, body)
			var want []impl.Op
			for i := range 4 {
				want = append(want, impl.Op{Kind: impl.OpWrite, At: 4*id + i, Data: page[64*i : 64*i+64]})
			}
			ops, ok := impl.PageOps(id, impl.KindInner, body)
			if !ok || !sameOps(ops, want) {
				t.Errorf("id %d: %v %v", id, ok, ops)
			}
			checkApart(t, "PageOps", []any{ops}, body)
		}
	}
}

func pageOps(t *testing.T, id, kind int, body []byte) []impl.Op {
	t.Helper()
	ops, ok := impl.PageOps(id, kind, body)
	if !ok {
		t.Fatalf("no ops of page %d", id)
	}
	return ops
}

func TestReadPage(t *testing.T) {
	d := newDisk(t, 15)
	d = played(t, d, pageOps(t, 1, impl.KindLeaf, []byte("old"))...)
	d = played(t, d, sync())
	if kind, body, ok := impl.ReadPage(d, 1); !ok || kind != impl.KindLeaf || string(body) != "old" {
		t.Errorf("a synced page: %v %d %q", ok, kind, body)
	}
	ops := pageOps(t, 1, impl.KindFree, bytes.Repeat([]byte{9}, 240))
	for n := 1; n < 4; n++ {
		torn := played(t, d, ops[:n]...)
		if kind, body, ok := impl.ReadPage(torn, 1); ok || kind != 0 || len(body) != 0 {
			t.Errorf("a page with %d new sectors", n)
		}
	}
	d = played(t, d, ops...)
	before := deepCopy(d)
	kind, body, ok := impl.ReadPage(d, 1)
	if !ok || kind != impl.KindFree || len(body) != 240 {
		t.Errorf("a pending page: %v %d %d", ok, kind, len(body))
	}
	checkApart(t, "ReadPage", []any{body}, d)
	checkKept(t, "ReadPage", d, before)
	for _, id := range []int{0, 2, 3, 4, -1, 1023, 1024, math.MaxInt, math.MinInt, 1 << 62, 1<<62 | 1} {
		if kind, body, ok := impl.ReadPage(d, id); ok || kind != 0 || len(body) != 0 {
			t.Errorf("page %d", id)
		}
	}
}

// Three sectors of a page at the disk's end are no page, whatever stands there.
func TestReadPageNumbersOfSectors(t *testing.T) {
	for sectors, pages := range map[int]int{1: 0, 3: 0, 4: 1, 7: 1, 8: 2, 11: 2, 4095: 1023, 4096: 1024} {
		d := newDisk(t, sectors)
		for _, id := range []int{0, pages - 1, pages} {
			if id < 0 || id > 1023 {
				continue
			}
			e, n := impl.Play(d, pageOps(t, id, impl.KindLeaf, []byte{1}), 4)
			if _, _, ok := impl.ReadPage(e, id); ok != (id < pages) || ok != (n == 4) {
				t.Errorf("%d sectors, page %d: %v", sectors, id, ok)
			}
		}
	}
}

// A page that was written for another place is not taken there.
func TestReadPageInWrongPlace(t *testing.T) {
	d := newDisk(t, 16)
	for i, op := range pageOps(t, 2, impl.KindLeaf, []byte("x")) {
		d = played(t, d, impl.Op{Kind: impl.OpWrite, At: 12 + i, Data: op.Data})
	}
	if _, _, ok := impl.ReadPage(d, 3); ok {
		t.Errorf("page 2 was read at 3")
	}
}

func TestPagesOfInvalidDisks(t *testing.T) {
	for name, d := range brokenDisks(t) {
		before := deepCopy(d)
		if kind, body, ok := impl.ReadPage(d, 0); ok || kind != 0 || len(body) != 0 {
			t.Errorf("%s: ReadPage", name)
		}
		if s, ok := impl.BestSuper(d); ok || s != (impl.Super{}) {
			t.Errorf("%s: BestSuper", name)
		}
		checkKept(t, name, d, before)
	}
	d := played(t, newDisk(t, 40), superOps(t, impl.Super{Gen: 1, Used: 2})...)
	d = played(t, d, pageOps(t, 3, impl.KindLeaf, []byte("x"))...)
	d.Safe[39] = nil
	if _, ok := impl.BestSuper(d); ok {
		t.Errorf("a superblock of a disk that is not valid")
	}
	if _, _, ok := impl.ReadPage(d, 3); ok {
		t.Errorf("a page of a disk that is not valid")
	}
}

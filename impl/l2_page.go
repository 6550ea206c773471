package impl

import (
	"bytes"
	"errors"
	"slices"
)

const PageSize = 256
const MaxBody = 240
const MaxGen = 1000000000000

const KindSuper = 1
const KindLeaf = 2
const KindInner = 3
const KindFree = 4

const pageSectors = PageSize / SectorSize
const maxPages = MaxSectors / pageSectors
const headSize = PageSize - MaxBody
const sumSize = 4
const superBody = 20

var errWrongBytes = errors.New("these are not the bytes of the page")
var errNoPage = errors.New("the disk has no such page")

// Super is a superblock: it names the root of the tree, the number of pages in
// use, and the first page of the free list.
type Super struct {
	Gen  int
	Root int
	Used int
	Free int
}

// Crc32 is a checksum.
func Crc32(b []byte) int {
	h := uint32(4294967295)
	for _, x := range b {
		h ^= uint32(x)
		for range 8 {
			odd := h%2 == 1
			h /= 2
			if odd {
				h ^= 3988292384
			}
		}
	}
	return int(h ^ 4294967295)
}

// EncodePage writes a page.
func EncodePage(id int, kind int, body []byte) ([]byte, bool) {
	common := pageCommon{id: id, kind: kind, size: len(body)}
	if !common.fits() {
		return nil, false
	}
	rest := slices.Concat(common.bytes(), body, make([]byte, MaxBody-len(body)))
	return append(appendNumber(nil, Crc32(rest), sumSize), rest...), true
}

// DecodePage reads a page, and takes no bytes but those that EncodePage gives.
func DecodePage(id int, b []byte) (int, []byte, bool) {
	kind, body, err := decodePage(id, b)
	if errors.Is(err, errWrongBytes) {
		return 0, nil, false
	}
	return kind, body, true
}

// ReadPage reads a page of a disk.
func ReadPage(d Disk, id int) (int, []byte, bool) {
	r, ok := newReader(d)
	if !ok {
		return 0, nil, false
	}
	kind, body, err := r.page(id)
	if errors.Is(err, errNoPage) || errors.Is(err, errWrongBytes) {
		return 0, nil, false
	}
	return kind, body, true
}

// PageOps gives the writes of a page, one for each of its sectors.
func PageOps(id int, kind int, body []byte) ([]Op, bool) {
	b, ok := EncodePage(id, kind, body)
	if !ok {
		return nil, false
	}
	var ops []Op
	for i := range pageSectors {
		data := slices.Clone(b[i*SectorSize : (i+1)*SectorSize])
		ops = append(ops, Op{Kind: OpWrite, At: id*pageSectors + i, Data: data})
	}
	return ops, true
}

// SuperOps gives the writes of a superblock.
func SuperOps(s Super) ([]Op, bool) {
	if !superOk(s) {
		return nil, false
	}
	body := appendNumber(nil, s.Gen, 8)
	body = appendNumber(body, s.Root, 4)
	body = appendNumber(body, s.Used, 4)
	body = appendNumber(body, s.Free, 4)
	return PageOps(superPage(s), KindSuper, body)
}

// BestSuper finds the newest superblock of a disk.
func BestSuper(d Disk) (Super, bool) {
	r, ok := newReader(d)
	if !ok {
		return Super{}, false
	}
	var best Super
	for id := range 2 {
		s, err := r.super(id)
		if err == nil && s.Gen > best.Gen {
			best = s
		}
	}
	return best, best.Gen > 0
}

// pageCommon is what the heads of super pages and of all others say alike.
type pageCommon struct {
	id   int
	kind int
	size int
}

func (c pageCommon) fits() bool {
	return c.id >= 0 && c.id < maxPages && c.kind >= KindSuper && c.kind <= KindFree && c.size <= MaxBody
}

func (c pageCommon) bytes() []byte {
	b := appendNumber(nil, c.id, 4)
	b = append(b, byte(c.kind), 0)
	b = appendNumber(b, c.size, 2)
	return appendNumber(b, 0, 4)
}

// pageHead is the whole head of a page. The checksum is no part of what is
// common, since it is taken over that.
type pageHead struct {
	pageCommon
	sum int
}

// readHead takes any bytes of a page's size: what it gives need not fit.
func readHead(b []byte) pageHead {
	common := pageCommon{id: numberOf(b[4:8]), kind: int(b[8]), size: numberOf(b[10:12])}
	return pageHead{pageCommon: common, sum: numberOf(b[:sumSize])}
}

func decodePage(id int, b []byte) (int, []byte, error) {
	if len(b) != PageSize {
		return 0, nil, errWrongBytes
	}
	head := readHead(b)
	if head.id != id || !head.fits() || head.sum != Crc32(b[sumSize:]) {
		return 0, nil, errWrongBytes
	}
	end := headSize + head.size
	if !bytes.Equal(head.bytes(), b[sumSize:headSize]) || !allZero(b[end:]) {
		return 0, nil, errWrongBytes
	}
	return head.kind, slices.Clone(b[headSize:end]), nil
}

func (r reader) page(id int) (int, []byte, error) {
	if id < 0 || id >= diskPages(r.disk) {
		return 0, nil, errNoPage
	}
	var b []byte
	for i := range pageSectors {
		b = append(b, r.sector(id*pageSectors+i)...)
	}
	return decodePage(id, b)
}

// super gives the superblock that stands in a page, if it belongs there.
func (r reader) super(id int) (Super, error) {
	kind, body, err := r.page(id)
	if err != nil {
		return Super{}, err
	}
	if kind != KindSuper || len(body) != superBody {
		return Super{}, errWrongBytes
	}
	s := Super{Gen: numberOf(body[:8]), Root: numberOf(body[8:12]), Used: numberOf(body[12:16]), Free: numberOf(body[16:])}
	if !superOk(s) || superPage(s) != id || s.Used > diskPages(r.disk) {
		return Super{}, errWrongBytes
	}
	return s, nil
}

func diskPages(d Disk) int {
	return len(d.Safe) / pageSectors
}

func superPage(s Super) int {
	return s.Gen % 2
}

func superOk(s Super) bool {
	if s.Gen < 1 || s.Gen > MaxGen || s.Used < 2 || s.Used > maxPages {
		return false
	}
	return namesPage(s, s.Root) && namesPage(s, s.Free)
}

func namesPage(s Super, id int) bool {
	return id == 0 || id >= 2 && id < s.Used
}

// appendNumber puts a number behind b in size bytes, the least byte first.
func appendNumber(b []byte, n int, size int) []byte {
	for range size {
		b = append(b, byte(n))
		n >>= 8
	}
	return b
}

// numberOf reads a number of which the least byte comes first. One of eight
// bytes may come out below 0, which no field takes.
func numberOf(b []byte) int {
	n := 0
	for i := len(b) - 1; i >= 0; i-- {
		n = n<<8 | int(b[i])
	}
	return n
}

func allZero(b []byte) bool {
	for _, x := range b {
		if x != 0 {
			return false
		}
	}
	return true
}

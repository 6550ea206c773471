package impl

import (
	"slices"
	"sync"
)

const SectorSize = 64
const MaxSectors = 4096
const MaxPending = 5000

const OpWrite = 1
const OpSync = 2

// Pend is a write to the sector At that was not synced.
type Pend struct {
	At   int
	Data []byte
}

// Disk is what is safe in each sector, and the pending writes in order.
type Disk struct {
	Safe    [][]byte
	Pending []Pend
}

// Op is a write of Data to the sector At, or a sync.
type Op struct {
	Kind int
	At   int
	Data []byte
}

// NewDisk gives a disk of so many sectors of zeros.
func NewDisk(sectors int) (Disk, bool) {
	if sectors < 1 || sectors > MaxSectors {
		return Disk{}, false
	}
	safe := make([][]byte, sectors)
	for at := range safe {
		safe[at] = make([]byte, SectorSize)
	}
	return Disk{Safe: safe}, true
}

// DiskOk says whether a disk is valid.
func DiskOk(d Disk) bool {
	if len(d.Safe) < 1 || len(d.Safe) > MaxSectors || len(d.Pending) > MaxPending {
		return false
	}
	for _, sector := range d.Safe {
		if len(sector) != SectorSize {
			return false
		}
	}
	for _, p := range d.Pending {
		if !writeFits(d, p.At, p.Data) {
			return false
		}
	}
	return true
}

// ReadSector gives what the sector at a position holds.
func ReadSector(d Disk, at int) ([]byte, bool) {
	r, ok := newReader(d)
	if !ok || !hasSector(d, at) {
		return nil, false
	}
	return slices.Clone(r.sector(at)), true
}

// Do carries an op out.
func Do(d Disk, op Op) (Disk, bool) {
	if !DiskOk(d) {
		return copyDisk(d), false
	}
	live := newDevice(d)
	done := live.do(op)
	return live.handOver(), done
}

// Play carries the first ops out, up to one that is refused, and counts them.
func Play(d Disk, ops []Op, most int) (Disk, int) {
	if len(ops) > MaxPending || !DiskOk(d) {
		return copyDisk(d), 0
	}
	live := newDevice(d)
	done := 0
	for done < min(most, len(ops)) && live.do(ops[done]) {
		done++
	}
	return live.handOver(), done
}

// Crash settles what was pending, as the choice bytes say.
func Crash(d Disk, choice []byte) (Disk, bool) {
	if !DiskOk(d) {
		return copyDisk(d), false
	}
	live := newDevice(d)
	live.crash(choice)
	return live.handOver(), true
}

func hasSector(d Disk, at int) bool {
	return at >= 0 && at < len(d.Safe)
}

func writeFits(d Disk, at int, data []byte) bool {
	return hasSector(d, at) && len(data) == SectorSize
}

// copyDisk takes any disk, since one that is not valid is handed back too.
func copyDisk(d Disk) Disk {
	var c Disk
	for _, sector := range d.Safe {
		c.Safe = append(c.Safe, slices.Clone(sector))
	}
	for _, p := range d.Pending {
		c.Pending = append(c.Pending, Pend{At: p.At, Data: slices.Clone(p.Data)})
	}
	return c
}

// reader looks at a valid disk. What it shows is the disk's own memory, so
// that many pages can be read without a copy of the disk for each.
type reader struct {
	disk Disk
	last map[int]int // from a position to the number of its last pending write
}

func newReader(d Disk) (reader, bool) {
	if !DiskOk(d) {
		return reader{}, false
	}
	last := map[int]int{}
	for i, p := range d.Pending {
		last[p.At] = i
	}
	return reader{disk: d, last: last}, true
}

func (r reader) sector(at int) []byte {
	if i, ok := r.last[at]; ok {
		return r.disk.Pending[i].Data
	}
	return r.disk.Safe[at]
}

// device is a valid disk at work. It has the disk for itself; the mutex lets
// one at a time touch it.
type device struct {
	mu   sync.Mutex
	disk Disk
}

func newDevice(d Disk) *device {
	return &device{disk: copyDisk(d)}
}

// handOver gives the disk without a copy: nobody asks the device afterwards.
func (v *device) handOver() Disk {
	v.mu.Lock()
	defer v.mu.Unlock()
	d := v.disk
	v.disk = Disk{}
	return d
}

func (v *device) do(op Op) bool {
	v.mu.Lock()
	defer v.mu.Unlock()
	switch op.Kind {
	case OpWrite:
		return v.write(op.At, op.Data)
	case OpSync:
		return v.flush(op.At, op.Data)
	}
	return false
}

func (v *device) write(at int, data []byte) bool {
	if !writeFits(v.disk, at, data) || len(v.disk.Pending) >= MaxPending {
		return false
	}
	v.disk.Pending = append(v.disk.Pending, Pend{At: at, Data: slices.Clone(data)})
	return true
}

func (v *device) flush(at int, data []byte) bool {
	if at != 0 || len(data) != 0 {
		return false
	}
	for _, p := range v.disk.Pending {
		v.disk.Safe[p.At] = p.Data
	}
	v.disk.Pending = nil
	return true
}

func (v *device) crash(choice []byte) {
	v.mu.Lock()
	defer v.mu.Unlock()
	writes := map[int][]int{}
	for i, p := range v.disk.Pending {
		writes[p.At] = append(writes[p.At], i)
	}
	seen := 0
	for at := range v.disk.Safe {
		mine := writes[at]
		if len(mine) == 0 {
			continue
		}
		if j := choiceByte(choice, seen) % (len(mine) + 1); j > 0 {
			v.disk.Safe[at] = v.disk.Pending[mine[j-1]].Data
		}
		seen++
	}
	v.disk.Pending = nil
}

func choiceByte(choice []byte, i int) int {
	if len(choice) == 0 {
		return 0
	}
	return int(choice[i%len(choice)])
}

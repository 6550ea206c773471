package tests

import (
	"bytes"
	"math"
	"math/rand"
	"testing"

	"loop.example/s01906/impl"
)

func TestNewDiskSizes(t *testing.T) {
	for _, n := range []int{1, 2, 35, 4095, 4096} {
		d, ok := impl.NewDisk(n)
		if !ok || len(d.Safe) != n || len(d.Pending) != 0 || !impl.DiskOk(d) {
			t.Errorf("%d sectors: %v, %d are there", n, ok, len(d.Safe))
		}
		for at, s := range d.Safe {
			if !bytes.Equal(s, sector(0)) {
				t.Errorf("%d sectors: sector %d is not of zeros", n, at)
			}
		}
		checkApart(t, "NewDisk", []any{d})
	}
	for _, n := range []int{0, -1, 4097, math.MaxInt, math.MinInt} {
		if d, ok := impl.NewDisk(n); ok || len(d.Safe) != 0 || len(d.Pending) != 0 {
			t.Errorf("%d sectors: %v, %d are there", n, ok, len(d.Safe))
		}
	}
}

func TestDiskOkPendingBound(t *testing.T) {
	d := newDisk(t, 1)
	for range impl.MaxPending {
		d.Pending = append(d.Pending, impl.Pend{At: 0, Data: sector(1)})
	}
	if !impl.DiskOk(d) {
		t.Errorf("MaxPending writes make a valid disk")
	}
	for name, b := range brokenDisks(t) {
		if impl.DiskOk(b) {
			t.Errorf("%s: valid", name)
		}
	}
}

// Promise 1: what was written last is read, pending or synced.
func TestReadSectorGivesLastWrite(t *testing.T) {
	d := played(t, newDisk(t, 4), write(0, 1), write(2, 2), sync(), write(2, 3), write(3, 4), write(2, 5), write(2, 6))
	for at, want := range []byte{1, 0, 6, 4} {
		if b, ok := impl.ReadSector(d, at); !ok || !bytes.Equal(b, sector(want)) {
			t.Errorf("sector %d: %v %v", at, ok, b)
		}
	}
	d = played(t, d, sync())
	for at, want := range []byte{1, 0, 6, 4} {
		if b, ok := impl.ReadSector(d, at); !ok || !bytes.Equal(b, sector(want)) || !bytes.Equal(d.Safe[at], b) {
			t.Errorf("synced sector %d: %v %v", at, ok, b)
		}
	}
	for _, at := range []int{-1, 4, math.MaxInt, math.MinInt} {
		if b, ok := impl.ReadSector(d, at); ok || len(b) != 0 {
			t.Errorf("there is no sector %d", at)
		}
	}
}

func TestDoRefusals(t *testing.T) {
	d := played(t, newDisk(t, 8), write(1, 1), sync(), write(2, 2), write(2, 3))
	for name, op := range map[string]impl.Op{
		"no kind":             {},
		"kind 0":              {Kind: 0, At: 1, Data: sector(1)},
		"kind 3":              {Kind: 3, At: 1, Data: sector(1)},
		"kind below 0":        {Kind: -1},
		"write behind":        write(8, 1),
		"write before":        write(-1, 1),
		"write far":           write(math.MaxInt, 1),
		"write of 63":         {Kind: impl.OpWrite, Data: make([]byte, 63)},
		"write of 65":         {Kind: impl.OpWrite, Data: make([]byte, 65)},
		"write of nothing":    {Kind: impl.OpWrite},
		"sync with At":        {Kind: impl.OpSync, At: 1},
		"sync with At below":  {Kind: impl.OpSync, At: -1},
		"sync with Data":      {Kind: impl.OpSync, Data: []byte{0}},
		"sync with a sector":  {Kind: impl.OpSync, Data: sector(1)},
		"sync with both":      {Kind: impl.OpSync, At: 1, Data: sector(1)},
		"write far below":     write(math.MinInt, 1),
		"kind as text number": {Kind: '1', Data: sector(1)},
	} {
		if e, ok := impl.Do(d, op); ok || !sameDisk(d, e) {
			t.Errorf("%s: %v", name, ok)
		}
	}
	if e, ok := impl.Do(d, impl.Op{Kind: impl.OpSync, Data: []byte{}}); !ok || len(e.Pending) != 0 || e.Safe[2][0] != 3 {
		t.Errorf("an empty Data is no Data")
	}
}

func TestDoWriteAndSync(t *testing.T) {
	d := newDisk(t, 3)
	for i := range 4 {
		e, ok := impl.Do(d, write(1, byte(i+1)))
		if !ok || len(e.Pending) != i+1 || e.Pending[i].At != 1 || !bytes.Equal(e.Pending[i].Data, sector(byte(i+1))) {
			t.Fatalf("write %d: %v %v", i, ok, e.Pending)
		}
		if e.Safe[1][0] != 0 || !samePending(e.Pending[:i], d.Pending) {
			t.Errorf("write %d changed more than Pending's end", i)
		}
		d = e
	}
	e, ok := impl.Do(d, sync())
	if !ok || len(e.Pending) != 0 || e.Safe[0][0] != 0 || e.Safe[1][0] != 4 || e.Safe[2][0] != 0 {
		t.Errorf("sync: %v %v", ok, e)
	}
	if f, ok := impl.Do(e, sync()); !ok || !sameDisk(e, f) {
		t.Errorf("sync with nothing pending: %v", ok)
	}
}

func TestMaxPendingWrites(t *testing.T) {
	var ops []impl.Op
	for i := range impl.MaxPending {
		ops = append(ops, write(i%3, byte(i)))
	}
	d, n := impl.Play(newDisk(t, 3), ops, len(ops))
	if n != impl.MaxPending || len(d.Pending) != impl.MaxPending || !impl.DiskOk(d) {
		t.Fatalf("%d were played, %d are pending", n, len(d.Pending))
	}
	if e, ok := impl.Do(d, write(0, 1)); ok || !sameDisk(d, e) {
		t.Errorf("one write more than MaxPending: %v", ok)
	}
	if e, n := impl.Play(d, []impl.Op{write(0, 1)}, 1); n != 0 || !sameDisk(d, e) {
		t.Errorf("one write more than MaxPending was played")
	}
	for at := range 3 {
		last := (impl.MaxPending-1-at)/3*3 + at
		if b, ok := impl.ReadSector(d, at); !ok || b[0] != byte(last) {
			t.Errorf("sector %d of a full disk: %v %v", at, ok, b)
		}
	}
	e, n := impl.Play(d, []impl.Op{sync(), write(0, 1)}, 2)
	if n != 2 || len(e.Pending) != 1 {
		t.Errorf("after a sync there is room again: %d", n)
	}
}

func TestPlayBounds(t *testing.T) {
	d := played(t, newDisk(t, 8), write(0, 9))
	ops := []impl.Op{write(0, 1), write(1, 2), sync(), write(2, 3), {Kind: 7}, write(3, 4)}
	for most, want := range map[int]int{math.MinInt: 0, -1: 0, 0: 0, 1: 1, 2: 2, 3: 3, 4: 4, 5: 4, 6: 4, 7: 4, math.MaxInt: 4} {
		e, n := impl.Play(d, ops, most)
		if n != want {
			t.Errorf("most %d: %d were done", most, n)
		}
		f := d
		for _, op := range ops[:want] {
			f, _ = impl.Do(f, op)
		}
		if !sameDisk(e, f) {
			t.Errorf("most %d: not the disk after %d ops", most, want)
		}
	}
	if e, n := impl.Play(d, ops[:4], 9); n != 4 || len(e.Pending) != 1 || e.Safe[0][0] != 1 {
		t.Errorf("all ops: %d", n)
	}
	if e, n := impl.Play(d, nil, 5); n != 0 || !sameDisk(d, e) {
		t.Errorf("no ops: %d", n)
	}
}

func TestPlayTooManyOps(t *testing.T) {
	d := played(t, newDisk(t, 8), write(0, 9))
	ops := make([]impl.Op, impl.MaxPending)
	for i := range ops {
		ops[i] = sync()
	}
	if _, n := impl.Play(d, ops, len(ops)); n != impl.MaxPending {
		t.Errorf("MaxPending ops: %d were done", n)
	}
	ops = append(ops, sync())
	for _, most := range []int{-1, 1, impl.MaxPending, math.MaxInt} {
		if e, n := impl.Play(d, ops, most); n != 0 || !sameDisk(d, e) {
			t.Errorf("one op more than MaxPending, most %d: %d were done", most, n)
		}
	}
}

// Promise 1: each sector keeps what was safe or becomes one of its own pending writes, as the choice says.
func TestCrashChoices(t *testing.T) {
	d := played(t, newDisk(t, 8), write(6, 60), write(1, 10), sync(),
		write(6, 61), write(1, 11), write(4, 41), write(1, 12), write(6, 62), write(1, 13))
	for i, c := range []struct {
		choice         []byte
		one, four, six byte
	}{
		{nil, 10, 0, 60},
		{[]byte{}, 10, 0, 60},
		{[]byte{0}, 10, 0, 60},
		{[]byte{1}, 11, 41, 61},
		{[]byte{2}, 12, 0, 62},
		{[]byte{3}, 13, 41, 60},
		{[]byte{4}, 10, 0, 61},
		{[]byte{255}, 13, 41, 60},
		{[]byte{254}, 12, 0, 62},
		{[]byte{1, 0}, 11, 0, 61},
		{[]byte{0, 1}, 10, 41, 60},
		{[]byte{2, 1}, 12, 41, 62},
		{[]byte{3, 0, 2}, 13, 0, 62},
		{[]byte{3, 1, 1, 9, 9}, 13, 41, 61},
	} {
		e, ok := impl.Crash(d, c.choice)
		want := impl.Disk{Safe: [][]byte{sector(0), sector(c.one), sector(0), sector(0), sector(c.four), sector(0), sector(c.six), sector(0)}}
		if !ok || !sameDisk(e, want) {
			t.Errorf("case %d: %v, sectors 1, 4, 6: %d %d %d", i, ok, e.Safe[1][0], e.Safe[4][0], e.Safe[6][0])
		}
	}
}

// The choice byte of a sector with very many writes can name only the first 255 of them.
func TestCrashManyWritesToOneSector(t *testing.T) {
	d := newDisk(t, 2)
	for i := range 300 {
		data := sector(0)
		data[0], data[1] = byte(i+1), byte((i+1)>>8)
		d = played(t, d, impl.Op{Kind: impl.OpWrite, At: 1, Data: data})
	}
	for c := range 256 {
		e, ok := impl.Crash(d, []byte{byte(c)})
		if got := int(e.Safe[1][0]) | int(e.Safe[1][1])<<8; !ok || got != c {
			t.Errorf("choice %d: write %d", c, got)
		}
	}
}

// Promise 1: a disk that was synced is not changed by Crash.
func TestCrashOfSyncedDisk(t *testing.T) {
	d := played(t, newDisk(t, 5), write(0, 1), write(4, 2), write(4, 3), sync())
	for _, choice := range [][]byte{nil, {0}, {1}, {255, 7, 3}, bytes.Repeat([]byte{2}, 99)} {
		if e, ok := impl.Crash(d, choice); !ok || !sameDisk(d, e) {
			t.Errorf("choice %v changed a synced disk", choice)
		}
	}
}

func TestInvalidDiskIsGivenBack(t *testing.T) {
	for name, d := range brokenDisks(t) {
		before := deepCopy(d)
		if b, ok := impl.ReadSector(d, 1); ok || len(b) != 0 {
			t.Errorf("%s: ReadSector", name)
		}
		for _, op := range []impl.Op{write(1, 7), sync(), {}} {
			e, ok := impl.Do(d, op)
			if ok || !sameDisk(e, before) {
				t.Errorf("%s: Do", name)
			}
			checkApart(t, name+", Do", []any{e}, d, op)
		}
		p, n := impl.Play(d, []impl.Op{write(1, 7), sync()}, 2)
		if n != 0 || !sameDisk(p, before) {
			t.Errorf("%s: Play", name)
		}
		c, ok := impl.Crash(d, []byte{1})
		if ok || !sameDisk(c, before) {
			t.Errorf("%s: Crash", name)
		}
		checkApart(t, name+", Play", []any{p}, d)
		checkApart(t, name+", Crash", []any{c}, d)
		checkKept(t, name, d, before)
	}
}

func TestDiskAnswersAreNewMemory(t *testing.T) {
	d := played(t, newDisk(t, 6), write(1, 1), sync(), write(2, 2), write(2, 3), write(5, 4))
	ops := []impl.Op{write(3, 5), write(3, 6), sync(), write(2, 7), {Kind: 9, Data: sector(1)}}
	choice := []byte{2, 1}
	dBefore, opsBefore, choiceBefore := deepCopy(d), deepCopy(ops), deepCopy(choice)
	for _, op := range ops {
		e, _ := impl.Do(d, op)
		checkApart(t, "Do", []any{e}, d, ops)
	}
	for most := range 6 {
		e, _ := impl.Play(d, ops, most)
		checkApart(t, "Play", []any{e}, d, ops)
	}
	for at := range 6 {
		b, _ := impl.ReadSector(d, at)
		checkApart(t, "ReadSector", []any{b}, d)
	}
	e, _ := impl.Crash(d, choice)
	checkApart(t, "Crash", []any{e}, d, choice)
	checkKept(t, "disk", d, dBefore)
	checkKept(t, "ops", ops, opsBefore)
	checkKept(t, "choice", choice, choiceBefore)
}

// The same list given for several sectors or writes does not come back shared.
func TestSharedArgumentsComeApart(t *testing.T) {
	one := sector(1)
	d := impl.Disk{Safe: [][]byte{one, one, one}, Pending: []impl.Pend{{At: 0, Data: one}, {At: 1, Data: one}, {At: 1, Data: one}}}
	op := impl.Op{Kind: impl.OpWrite, At: 2, Data: one}
	written, _ := impl.Do(d, op)
	synced, _ := impl.Do(d, sync())
	sunk, _ := impl.Play(d, []impl.Op{op, op, sync(), op}, 4)
	crashed, _ := impl.Crash(d, []byte{1})
	refused, _ := impl.Do(d, impl.Op{})
	for _, e := range []impl.Disk{written, synced, sunk, crashed, refused} {
		checkApart(t, "shared sectors", []any{e}, d, op)
	}
}

// model keeps for each sector what is safe and its pending writes, and knows nothing of their order across sectors.
type model struct {
	safe    []byte
	pending [][]byte
}

func (m *model) do(op impl.Op) {
	if op.Kind == impl.OpSync {
		for at, p := range m.pending {
			if len(p) > 0 {
				m.safe[at] = p[len(p)-1]
			}
		}
		m.pending = make([][]byte, len(m.safe))
		return
	}
	m.pending[op.At] = append(m.pending[op.At], op.Data[0])
}

func (m *model) crash(choice []byte) {
	i := 0
	for at, p := range m.pending {
		if len(p) == 0 {
			continue
		}
		held := append([]byte{m.safe[at]}, p...)
		if len(choice) > 0 {
			m.safe[at] = held[int(choice[i%len(choice)])%len(held)]
		}
		i++
	}
	m.pending = make([][]byte, len(m.safe))
}

func (m *model) read(at int) byte {
	if p := m.pending[at]; len(p) > 0 {
		return p[len(p)-1]
	}
	return m.safe[at]
}

func TestDiskAgainstModel(t *testing.T) {
	r := rand.New(rand.NewSource(1))
	for round := range 200 {
		n := 1 + r.Intn(9)
		d := newDisk(t, n)
		m := &model{make([]byte, n), make([][]byte, n)}
		for range 60 {
			switch k := r.Intn(20); {
			case k == 0:
				choice := make([]byte, r.Intn(n+3))
				r.Read(choice)
				var ok bool
				if d, ok = impl.Crash(d, choice); !ok || len(d.Pending) != 0 {
					t.Fatalf("round %d: crash", round)
				}
				m.crash(choice)
			case k < 3:
				d = played(t, d, sync())
				m.do(sync())
			default:
				op := write(r.Intn(n), byte(r.Intn(256)))
				d = played(t, d, op)
				m.do(op)
			}
			for at := range n {
				if b, ok := impl.ReadSector(d, at); !ok || !bytes.Equal(b, sector(m.read(at))) || d.Safe[at][0] != m.safe[at] {
					t.Fatalf("round %d: sector %d", round, at)
				}
			}
		}
	}
}

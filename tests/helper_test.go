package tests

import (
	"bytes"
	"reflect"
	"slices"
	"testing"

	"loop.example/s01906/impl"
)

// span is the memory of a slice up to its capacity, since an append writes there too.
type span struct {
	from, to uintptr
	arg      bool
}

func spansOf(v reflect.Value, arg bool, out []span) []span {
	switch v.Kind() {
	case reflect.Struct:
		for i := range v.NumField() {
			out = spansOf(v.Field(i), arg, out)
		}
	case reflect.Slice:
		if v.Cap() > 0 {
			size := uintptr(v.Cap()) * v.Type().Elem().Size()
			out = append(out, span{v.Pointer(), v.Pointer() + size, arg})
		}
		for i := 0; i < v.Len() && hasSlices(v.Type().Elem()); i++ {
			out = spansOf(v.Index(i), arg, out)
		}
	}
	return out
}

// hasSlices spares a walk over each byte of a disk.
func hasSlices(t reflect.Type) bool {
	return t.Kind() == reflect.Struct || t.Kind() == reflect.Slice
}

// checkApart fails when two lists of the answers share memory, or one with an argument.
func checkApart(t *testing.T, name string, answers []any, args ...any) {
	t.Helper()
	var all []span
	for _, a := range answers {
		all = spansOf(reflect.ValueOf(a), false, all)
	}
	for _, a := range args {
		all = spansOf(reflect.ValueOf(a), true, all)
	}
	slices.SortFunc(all, func(a, b span) int {
		if a.from < b.from {
			return -1
		}
		return 1
	})
	for i := 1; i < len(all); i++ {
		if all[i].from < all[i-1].to && !(all[i].arg && all[i-1].arg) {
			t.Errorf("%s: an answer shares memory", name)
			return
		}
	}
}

// deepCopy copies structs and slices; an empty slice stays as it is, nil or not.
func deepCopy[T any](x T) T {
	return deepCopyValue(reflect.ValueOf(x)).Interface().(T)
}

func deepCopyValue(v reflect.Value) reflect.Value {
	c := reflect.New(v.Type()).Elem()
	switch v.Kind() {
	case reflect.Struct:
		for i := range v.NumField() {
			c.Field(i).Set(deepCopyValue(v.Field(i)))
		}
	case reflect.Slice:
		if v.IsNil() {
			return c
		}
		c.Set(reflect.MakeSlice(v.Type(), v.Len(), v.Len()))
		if !hasSlices(v.Type().Elem()) {
			reflect.Copy(c, v)
			return c
		}
		for i := range v.Len() {
			c.Index(i).Set(deepCopyValue(v.Index(i)))
		}
	default:
		c.Set(v)
	}
	return c
}

// checkKept fails when a call wrote into its argument.
func checkKept(t *testing.T, name string, now, before any) {
	t.Helper()
	if !reflect.DeepEqual(now, before) {
		t.Errorf("%s: the argument was written into", name)
	}
}

func sameOps(a, b []impl.Op) bool {
	return slices.EqualFunc(a, b, func(x, y impl.Op) bool {
		return x.Kind == y.Kind && x.At == y.At && bytes.Equal(x.Data, y.Data)
	})
}

func samePending(a, b []impl.Pend) bool {
	return slices.EqualFunc(a, b, func(x, y impl.Pend) bool {
		return x.At == y.At && bytes.Equal(x.Data, y.Data)
	})
}

func sameDisk(a, b impl.Disk) bool {
	return slices.EqualFunc(a.Safe, b.Safe, bytes.Equal) && samePending(a.Pending, b.Pending)
}

func sector(fill byte) []byte {
	return bytes.Repeat([]byte{fill}, impl.SectorSize)
}

func write(at int, fill byte) impl.Op {
	return impl.Op{Kind: impl.OpWrite, At: at, Data: sector(fill)}
}

func sync() impl.Op {
	return impl.Op{Kind: impl.OpSync}
}

func newDisk(t *testing.T, sectors int) impl.Disk {
	t.Helper()
	d, ok := impl.NewDisk(sectors)
	if !ok {
		t.Fatalf("no disk of %d sectors", sectors)
	}
	return d
}

// played does all the ops.
func played(t *testing.T, d impl.Disk, ops ...impl.Op) impl.Disk {
	t.Helper()
	e, n := impl.Play(d, ops, len(ops))
	if n != len(ops) {
		t.Fatalf("only %d of %d ops were played", n, len(ops))
	}
	return e
}

// brokenDisks are disks that are not valid, each by one fault.
func brokenDisks(t *testing.T) map[string]impl.Disk {
	t.Helper()
	base := func() impl.Disk { return played(t, newDisk(t, 8), write(1, 1), sync(), write(2, 2)) }
	broken := map[string]impl.Disk{"no sectors": {}}
	add := func(name string, spoil func(d *impl.Disk)) {
		d := base()
		spoil(&d)
		broken[name] = d
	}
	add("pending but no sectors", func(d *impl.Disk) { d.Safe = nil })
	add("short sector", func(d *impl.Disk) { d.Safe[7] = d.Safe[7][:63] })
	add("long sector", func(d *impl.Disk) { d.Safe[0] = make([]byte, 65) })
	add("nil sector", func(d *impl.Disk) { d.Safe[3] = nil })
	add("pending behind the end", func(d *impl.Disk) { d.Pending[0].At = 8 })
	add("pending before the start", func(d *impl.Disk) { d.Pending[0].At = -1 })
	add("short pending", func(d *impl.Disk) { d.Pending[0].Data = d.Pending[0].Data[:63] })
	add("long pending", func(d *impl.Disk) { d.Pending[0].Data = make([]byte, 65) })
	add("no pending data", func(d *impl.Disk) { d.Pending[0].Data = nil })
	add("too much pending", func(d *impl.Disk) {
		for len(d.Pending) <= impl.MaxPending {
			d.Pending = append(d.Pending, impl.Pend{At: 1, Data: sector(1)})
		}
	})
	add("too many sectors", func(d *impl.Disk) {
		for len(d.Safe) <= impl.MaxSectors {
			d.Safe = append(d.Safe, sector(0))
		}
	})
	return broken
}

package mem

import (
	"bytes"
	"encoding/binary"
	"math"
	"slices"
	"testing"

	"humpyard/api"
)

var loads = map[int]uint32{api.LB: 1, api.LBU: 1, api.LH: 2, api.LHU: 2, api.LW: 4}
var stores = map[int]uint32{api.SB: 1, api.SH: 2, api.SW: 4}

// mixed answers bytes of which each is another, some of them with their highest bit.
func mixed(many int) []byte {
	m := make([]byte, many)
	for n := range m {
		m[n] = byte(n*89 + 120)
	}
	return m
}

func refusesLoad(t *testing.T, m []byte, op int, at uint32) {
	t.Helper()
	if w, ok := Load(m, op, at); ok || w != 0 {
		t.Errorf("load %d at %d of %d bytes: %d %v", op, at, len(m), w, ok)
	}
}

func refusesStore(t *testing.T, m []byte, op int, at uint32) {
	t.Helper()
	was := bytes.Clone(m)
	if l, ok := Store(m, op, at, 0x01020304); ok || l != nil {
		t.Errorf("store %d at %d of %d bytes: %v %v", op, at, len(m), l, ok)
	}
	if !bytes.Equal(m, was) {
		t.Errorf("store %d at %d of %d bytes: refused, but they were changed", op, at, len(m))
	}
}

// wanted answers what a load finds, by the library's own reading of bytes.
func wanted(m []byte, op int, at uint32) uint32 {
	switch op {
	case api.LB:
		return uint32(int32(int8(m[at])))
	case api.LBU:
		return uint32(m[at])
	case api.LH:
		return uint32(int32(int16(binary.LittleEndian.Uint16(m[at:]))))
	case api.LHU:
		return uint32(binary.LittleEndian.Uint16(m[at:]))
	}
	return binary.LittleEndian.Uint32(m[at:])
}

// laid answers what a store leaves, by the library's own writing of bytes.
func laid(m []byte, op int, at, w uint32) []byte {
	l := append([]byte{}, m...)
	switch op {
	case api.SB:
		l[at] = byte(w)
	case api.SH:
		binary.LittleEndian.PutUint16(l[at:], uint16(w))
	default:
		binary.LittleEndian.PutUint32(l[at:], w)
	}
	return l
}

// TestLoad: C1, word by word.
func TestLoad(t *testing.T) {
	for _, c := range []struct {
		name string
		m    []byte
		op   int
		at   uint32
		w    uint32
	}{
		{"the document's example", []byte{255, 0, 0, 0}, api.LB, 0, 1<<32 - 1},
		{"LB, highest bit not set", []byte{0, 127}, api.LB, 1, 127},
		{"LB, highest bit alone", []byte{0, 128}, api.LB, 1, 0xffffff80},
		{"LB looks at one byte", []byte{127, 255, 255, 255}, api.LB, 0, 127},
		{"LBU, highest bit not set", []byte{0, 127}, api.LBU, 1, 127},
		{"LBU, highest bit alone", []byte{0, 128}, api.LBU, 1, 128},
		{"LBU, all bits", []byte{255, 0, 0, 0}, api.LBU, 0, 255},
		{"LH, lowest byte first", []byte{1, 2}, api.LH, 0, 0x0201},
		{"LH, highest bit not set", []byte{0, 0, 255, 127}, api.LH, 2, 0x7fff},
		{"LH, highest bit alone", []byte{0, 0, 0, 128}, api.LH, 2, 0xffff8000},
		{"LH, lower byte's highest bit", []byte{128, 0}, api.LH, 0, 128},
		{"LH looks at two bytes", []byte{1, 0, 255, 255}, api.LH, 0, 1},
		{"LHU, highest bit not set", []byte{0, 0, 255, 127}, api.LHU, 2, 0x7fff},
		{"LHU, highest bit alone", []byte{0, 0, 0, 128}, api.LHU, 2, 0x8000},
		{"LHU, all bits", []byte{255, 255, 0, 0}, api.LHU, 0, 0xffff},
		{"LW, lowest byte first", []byte{1, 2, 3, 4}, api.LW, 0, 0x04030201},
		{"LW, highest bit set", []byte{9, 9, 9, 9, 0, 0, 0, 128}, api.LW, 4, 1 << 31},
		{"LW, all bits", []byte{255, 255, 255, 255}, api.LW, 0, 1<<32 - 1},
	} {
		if w, ok := Load(c.m, c.op, c.at); !ok || w != c.w {
			t.Errorf("%s: %#x %v, not %#x", c.name, w, ok, c.w)
		}
	}
}

// TestStore: C1, byte by byte.
func TestStore(t *testing.T) {
	for _, c := range []struct {
		name string
		m    []byte
		op   int
		at   uint32
		w    uint32
		l    []byte
	}{
		{"SB, lowest byte alone", []byte{9, 8, 7, 6}, api.SB, 1, 0x01020384, []byte{9, 0x84, 7, 6}},
		{"SH, lowest half alone", []byte{9, 8, 7, 6}, api.SH, 2, 0x01028304, []byte{9, 8, 4, 0x83}},
		{"SW, all", []byte{9, 8, 7, 6, 5, 4, 3, 2}, api.SW, 4, 0x81020304, []byte{9, 8, 7, 6, 4, 3, 2, 0x81}},
		{"SB of 0", []byte{9}, api.SB, 0, 0xffffff00, []byte{0}},
		{"SH of 0", []byte{9, 8}, api.SH, 0, 0xffff0000, []byte{0, 0}},
		{"SW of 0", []byte{9, 8, 7, 6}, api.SW, 0, 0, []byte{0, 0, 0, 0}},
		{"SB of what stands there", []byte{9, 8}, api.SB, 0, 9, []byte{9, 8}},
	} {
		was := bytes.Clone(c.m)
		if l, ok := Store(c.m, c.op, c.at, c.w); !ok || !bytes.Equal(l, c.l) {
			t.Errorf("%s: %v %v, not %v", c.name, l, ok, c.l)
		}
		if !bytes.Equal(c.m, was) {
			t.Errorf("%s: what was handed in is %v now", c.name, c.m)
		}
	}
}

// TestEveryPlace: C1: each load and each store at each place of memories of 0 to 16 bytes and some beyond them; it can be where a multiple is, and all bytes are there.
func TestEveryPlace(t *testing.T) {
	for size := range 17 {
		m := mixed(size)
		for at := range uint32(size) + 9 {
			for op, many := range loads {
				if at%many != 0 || int(at+many) > size {
					refusesLoad(t, m, op, at)
				} else if w, ok := Load(m, op, at); !ok || w != wanted(m, op, at) {
					t.Errorf("load %d at %d of %d bytes: %#x %v", op, at, size, w, ok)
				}
			}
			for op, many := range stores {
				const w = 0xa1b2c3d4
				if at%many != 0 || int(at+many) > size {
					refusesStore(t, m, op, at)
				} else if l, ok := Store(m, op, at, w); !ok || !bytes.Equal(l, laid(m, op, at, w)) {
					t.Errorf("store %d at %d of %d bytes: %v %v", op, at, size, l, ok)
				}
			}
		}
	}
}

// TestFirstAndLastPlace: C1, at memories of an ordinary size, the greatest that is spoken of, and a greater one, which the chapter does not refuse.
func TestFirstAndLastPlace(t *testing.T) {
	for _, size := range []uint32{64, api.MaxMemory, api.MaxMemory + 4} {
		m := mixed(int(size))
		for op, many := range loads {
			for _, at := range []uint32{0, size - many} {
				if w, ok := Load(m, op, at); !ok || w != wanted(m, op, at) {
					t.Errorf("load %d at %d of %d bytes: %#x %v", op, at, size, w, ok)
				}
			}
			refusesLoad(t, m, op, size)
			refusesLoad(t, m[:size-1], op, size-many)
		}
		for op, many := range stores {
			for _, at := range []uint32{0, size - many} {
				const w = 0x5a6b7c8d
				if l, ok := Store(m, op, at, w); !ok || !bytes.Equal(l, laid(m, op, at, w)) {
					t.Errorf("store %d at %d of %d bytes: %v", op, at, size, ok)
				}
			}
			refusesStore(t, m, op, size)
			refusesStore(t, m[:size-1], op, size-many)
		}
	}
}

// TestGreatestPlaces: C1: near the greatest uint32 the end of what is asked for comes round to 0 and above it, and is not there all the same.
func TestGreatestPlaces(t *testing.T) {
	for _, m := range [][]byte{nil, {}, mixed(1), mixed(8), mixed(api.MaxMemory)} {
		for back := range uint32(9) {
			for op := range loads {
				refusesLoad(t, m, op, math.MaxUint32-back)
				refusesLoad(t, m, op, 1<<31-back)
			}
			for op := range stores {
				refusesStore(t, m, op, math.MaxUint32-back)
				refusesStore(t, m, op, 1<<31-back)
			}
		}
	}
}

// TestNoMultiple: C1: all bytes are there, but the place is not a multiple of how many there are.
func TestNoMultiple(t *testing.T) {
	m := mixed(16)
	for _, at := range []uint32{1, 3, 5, 7, 9, 11} {
		for _, op := range []int{api.LH, api.LHU, api.LW} {
			refusesLoad(t, m, op, at)
		}
		refusesStore(t, m, api.SH, at)
		refusesStore(t, m, api.SW, at)
	}
	for _, at := range []uint32{2, 6, 10} {
		refusesLoad(t, m, api.LW, at)
		refusesStore(t, m, api.SW, at)
	}
}

// TestShortMemory: C1: there is none, or less than is asked for.
func TestShortMemory(t *testing.T) {
	for op, many := range loads {
		refusesLoad(t, nil, op, 0)
		refusesLoad(t, []byte{}, op, 0)
		refusesLoad(t, mixed(int(many)-1), op, 0)
	}
	for op, many := range stores {
		refusesStore(t, nil, op, 0)
		refusesStore(t, []byte{}, op, 0)
		refusesStore(t, mixed(int(many)-1), op, 0)
	}
}

// TestOtherOps: C1: all that are no loads given to Load, stores among them, all that are no stores given to Store, loads among them, and numbers that are no instruction.
func TestOtherOps(t *testing.T) {
	m := mixed(16)
	ops := []int{math.MinInt, math.MaxInt, math.MinInt32, math.MaxInt32, 1<<32 + api.LB, 1<<32 + api.SB, 256 + api.LW, 256 + api.SW}
	for op := -60; op <= 60; op++ {
		ops = append(ops, op)
	}
	for _, op := range ops {
		for _, at := range []uint32{0, 1, 4, math.MaxUint32} {
			if loads[op] == 0 {
				refusesLoad(t, m, op, at)
			}
			if stores[op] == 0 {
				refusesStore(t, m, op, at)
			}
		}
	}
}

// TestStoreIsACopy: C1, P3: what is answered and what was handed in do not share memory, either way.
func TestStoreIsACopy(t *testing.T) {
	for op := range stores {
		m := mixed(16)
		was := slices.Clone(m)
		l, ok := Store(m, op, 8, 0x11223344)
		if !ok || !bytes.Equal(m, was) {
			t.Fatalf("store %d: %v, what was handed in is %v now", op, ok, m)
		}
		for n := range l {
			l[n]++
		}
		if !bytes.Equal(m, was) {
			t.Errorf("store %d: what is answered shares with what was handed in", op)
		}
		again, _ := Store(m, op, 8, 0x11223344)
		m[0]++
		if !bytes.Equal(again, laid(was, op, 8, 0x11223344)) {
			t.Errorf("store %d: it was kept: %v", op, again)
		}
	}
}

// TestBehindTheLength: P3: bytes behind a list's length are not there, and stay as they are.
func TestBehindTheLength(t *testing.T) {
	all := mixed(16)
	was := slices.Clone(all)
	for op := range loads {
		refusesLoad(t, all[:8], op, 8)
		refusesLoad(t, all[:0], op, 0)
	}
	for op, many := range stores {
		refusesStore(t, all[:8], op, 8)
		refusesStore(t, all[:0], op, 0)
		l, ok := Store(all[:8], op, 8-many, 0x11223344)
		if !ok || len(l) != 8 {
			t.Errorf("store %d: %v %v", op, l, ok)
		}
		l = append(l, 1, 2, 3, 4)
		l[0]++
	}
	if !bytes.Equal(all, was) {
		t.Errorf("bytes behind the length: %v", all)
	}
}

// TestStores: how many bytes a store lays is told where Store lays them, and 0 where it does not.
func TestStores(t *testing.T) {
	m := mixed(8)
	for op := range 60 {
		for at := range uint32(12) {
			want := uint32(0)
			if _, ok := Store(m, op, at, 0); ok {
				want = stores[op]
			}
			if many := Stores(m, op, at); many != want {
				t.Errorf("store %d at %d: %d bytes, not %d", op, at, many, want)
			}
		}
	}
	if many := Stores(m, api.SW, math.MaxUint32-3); many != 0 {
		t.Errorf("at the greatest place: %d bytes", many)
	}
}

// TestLoads: C1: how many bytes each load asks for; 0 of other ops.
func TestLoads(t *testing.T) {
	for op := -2; op <= api.EBREAK+2; op++ {
		if many := Loads(op); many != loads[op] {
			t.Errorf("load %d: %d bytes", op, many)
		}
	}
	for _, op := range []int{math.MinInt, math.MaxInt} {
		if many := Loads(op); many != 0 {
			t.Errorf("load %d: %d bytes", op, many)
		}
	}
}

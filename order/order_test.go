package order

import (
	"bytes"
	"cmp"
	"math"
	"slices"
	"testing"

	"humpyard/api"
	"humpyard/mem"
)

const least, most = math.MinInt, math.MaxInt

// top is the greatest place.
const top = math.MaxUint32

// st answers a store that is Known, un one that is not: it would have all bytes that it is asked for, if it were.
func st(seq int, at uint32, many int, data uint32) api.Access {
	return api.Access{Seq: seq, Store: true, Known: true, At: at, Many: many, Data: data}
}

func un(seq int, at uint32, many int, data uint32) api.Access {
	return api.Access{Seq: seq, Store: true, At: at, Many: many, Data: data}
}

// ld answers a load that is Done and Known.
func ld(seq int, at uint32, many int) api.Access {
	return api.Access{Seq: seq, Known: true, At: at, Many: many, Data: 0xeeeeeeee, Done: true}
}

func list(a ...api.Access) []api.Access { return a }

// memory answers bytes 0x10, 0x11, ..
func memory(many int) []byte {
	m := make([]byte, many)
	for n := range m {
		m[n] = byte(0x10 + n)
	}
	return m
}

// seen is what See answers.
type seen struct {
	w        uint32
	ok, sure bool
}

func sure(w uint32) seen   { return seen{w, true, true} }
func unsure(w uint32) seen { return seen{w, true, false} }

// behind lists what may lie behind a list's end: accesses that would count if they were read.
func behind(seq int) [][]api.Access {
	return [][]api.Access{
		nil,
		{st(seq-1, 0, 4, 0xbadbadba), st(seq, 0, 4, 0xbadbadba), un(seq-1, 0, 4, 0)},
		{ld(seq+1, 0, 4), ld(seq+1, top-3, 4), st(seq, top-3, 4, 0xbadbadba)},
	}
}

// hand makes a call twice with the list as it stands, and twice with each kind of things behind its end; what was handed in is as it was.
func hand(t *testing.T, name string, l []api.Access, seq int, call func([]api.Access)) {
	t.Helper()
	was := slices.Clone(l)
	for _, b := range behind(seq) {
		all := slices.Concat(l, b)
		call(all[:len(l)])
		call(all[:len(l)])
		if !slices.Equal(all, slices.Concat(was, b)) {
			t.Errorf("%s: what was handed in is not as it was: %v, not %v", name, all, was)
		}
	}
	call(l)
	call(l)
	if !slices.Equal(l, was) {
		t.Errorf("%s: what was handed in is not as it was: %v, not %v", name, l, was)
	}
}

func see(t *testing.T, name string, l []api.Access, m []byte, seq int, at uint32, many int, want seen) {
	t.Helper()
	was := bytes.Clone(m)
	room := slices.Concat(m, []byte{0xb0, 0xb1, 0xb2, 0xb3})
	hand(t, name, l, seq, func(l []api.Access) {
		t.Helper()
		for _, m := range [][]byte{m, room[:len(m)]} {
			w, ok, all := See(l, m, seq, at, many)
			if got := (seen{w, ok, all}); got != want {
				t.Errorf("%s: See of %d bytes at %d for %d: %v, not %v", name, many, at, seq, got, want)
			}
		}
	})
	if !bytes.Equal(m, was) || !bytes.Equal(room, slices.Concat(was, []byte{0xb0, 0xb1, 0xb2, 0xb3})) {
		t.Errorf("%s: the memory is not as it was: %v", name, m)
	}
}

func wrong(t *testing.T, name string, l []api.Access, seq, want int) {
	t.Helper()
	hand(t, name, l, seq, func(l []api.Access) {
		t.Helper()
		if got, is := Wrong(l, seq); got != want || !is {
			t.Errorf("%s: Wrong for %d: %d %v, not %d", name, seq, got, is, want)
		}
	})
}

func right(t *testing.T, name string, l []api.Access, seq int) {
	t.Helper()
	hand(t, name, l, seq, func(l []api.Access) {
		t.Helper()
		if got, is := Wrong(l, seq); got != 0 || is {
			t.Errorf("%s: Wrong for %d: %d %v, but nothing is", name, seq, got, is)
		}
	})
}

// TestSeeMemory: I1: without stores what is seen is memory's, the lowest byte first, and sure.
func TestSeeMemory(t *testing.T) {
	m := memory(8)
	for _, l := range [][]api.Access{nil, {}} {
		for _, seq := range []int{least, -1, 0, 1, most} {
			see(t, "1", l, m, seq, 0, 1, sure(0x10))
			see(t, "2", l, m, seq, 0, 2, sure(0x1110))
			see(t, "4", l, m, seq, 0, 4, sure(0x13121110))
			see(t, "1, odd", l, m, seq, 3, 1, sure(0x13))
			see(t, "2, no multiple of 4", l, m, seq, 2, 2, sure(0x1312))
			see(t, "1, to the last one", l, m, seq, 7, 1, sure(0x17))
			see(t, "2, to the last one", l, m, seq, 6, 2, sure(0x1716))
			see(t, "4, to the last one", l, m, seq, 4, 4, sure(0x17161514))
		}
	}
	high := []byte{0x80, 0xff, 0xfe, 0xfd}
	see(t, "the highest bit of a byte", nil, high, 1, 0, 1, sure(0x80))
	see(t, "the highest bit of a half", nil, high, 1, 0, 2, sure(0xff80))
	see(t, "the highest bit of a word", nil, high, 1, 0, 4, sure(0xfdfeff80))
	great := memory(api.MaxMemory + 4)
	see(t, "beyond MaxMemory", nil, great, 1, api.MaxMemory, 4, sure(0x13121110))
}

// TestSeeMany: I1: many is 1, 2 or 4, and nothing else is.
func TestSeeMany(t *testing.T) {
	l := list(st(1, 0, 4, 0x04030201), st(2, top-3, 4, 0x04030201))
	for _, many := range []int{least, math.MinInt32, -4, -2, -1, 0, 3, 5, 6, 7, 8, 16, 256 + 1, 1<<32 + 1, 1<<32 + 4, math.MaxInt32, most} {
		for _, at := range []uint32{0, 1, 3, 4, 5, 8, top} {
			see(t, "no such many", l, memory(16), 3, at, many, seen{})
			see(t, "no such many, no stores", nil, memory(16), 3, at, many, seen{})
			see(t, "no such many, no memory", l, nil, 3, at, many, seen{})
		}
	}
}

// TestSeeMultiple: I1: at is a multiple of many, or nothing is seen.
func TestSeeMultiple(t *testing.T) {
	l := list(st(1, 0, 4, 0x04030201))
	for at := range uint32(12) {
		for _, many := range []int{1, 2, 4} {
			w, ok, all := See(l, memory(16), 2, at, many)
			if fits := int(at)%many == 0; ok != fits || all != fits || !fits && w != 0 {
				t.Errorf("%d bytes at %d: %x %v %v", many, at, w, ok, all)
			}
		}
	}
	for _, at := range []uint32{1, 3, 5, 7, 9, 11} {
		see(t, "no multiple of 2", l, memory(16), 2, at, 2, seen{})
		see(t, "no multiple of 4", l, memory(16), 2, at, 4, seen{})
	}
	for _, at := range []uint32{2, 6, 10} {
		see(t, "a multiple of 2", l, memory(16), 2, at, 4, seen{})
	}
}

// TestSeeBeyond: I1: one byte that is not in memory is enough, also where a store has it.
func TestSeeBeyond(t *testing.T) {
	l := list(st(1, 0, 4, 0x04030201), st(1, 4, 4, 0x08070605), st(1, 8, 4, 0), st(1, top-3, 4, 0x0c0b0a09))
	for size := range 10 {
		m := memory(size)
		for at := range uint32(12) {
			for _, many := range []int{1, 2, 4} {
				_, ok, all := See(l, m, 2, at, many)
				if fits := int(at)%many == 0 && int(at)+many <= size; ok != fits || all != fits {
					t.Errorf("%d bytes at %d of %d: %v %v", many, at, size, ok, all)
				}
			}
		}
	}
	see(t, "one of 4 beyond", l, memory(7), 2, 4, 4, seen{})
	see(t, "one of 2 beyond", l, memory(7), 2, 6, 2, seen{})
	see(t, "one of 1 beyond", l, memory(7), 2, 7, 1, seen{})
	see(t, "not known ones do not make it seen", list(un(1, 4, 4, 0)), memory(7), 2, 4, 4, seen{})
	for _, many := range []int{1, 2, 4} {
		for _, m := range [][]byte{nil, {}} {
			see(t, "no memory", l, m, 2, 0, many, seen{})
			see(t, "no memory, no stores", nil, m, 2, 0, many, seen{})
			see(t, "no memory, the greatest place", l, m, 2, top-uint32(many)+1, many, seen{})
		}
		for back := range uint32(9) {
			see(t, "near the greatest place", l, memory(8), 2, top-back, many, seen{})
			see(t, "near the half", l, memory(8), 2, 1<<31-back, many, seen{})
		}
	}
}

// TestSeeStore: I1: a byte that a store has is seen, each byte of Data at its place.
func TestSeeStore(t *testing.T) {
	m := memory(8)
	one := list(st(1, 0, 4, 0x84838281))
	see(t, "a word", one, m, 2, 0, 4, sure(0x84838281))
	see(t, "its lower half", one, m, 2, 0, 2, sure(0x8281))
	see(t, "its higher half", one, m, 2, 2, 2, sure(0x8483))
	for n, b := range []uint32{0x81, 0x82, 0x83, 0x84, 0x14} {
		see(t, "one byte", one, m, 2, uint32(n), 1, sure(b))
	}
	see(t, "it has no such byte", one, m, 2, 4, 4, sure(0x17161514))
	see(t, "zeros are stored, too", list(st(1, 0, 4, 0)), m, 2, 0, 4, sure(0))
	see(t, "Done is nothing of a store's", list(api.Access{Seq: 1, Store: true, Known: true, Many: 1, Data: 9, Done: true}), m, 2, 0, 1, sure(9))
}

// TestSeeParts: I1: some bytes are of a store, some of another, some of memory.
func TestSeeParts(t *testing.T) {
	m := memory(8)
	see(t, "one byte of four, the first", list(st(1, 0, 1, 0x84838281)), m, 2, 0, 4, sure(0x13121181))
	see(t, "one byte of four, the second", list(st(1, 1, 1, 0x84838281)), m, 2, 0, 4, sure(0x13128110))
	see(t, "one byte of four, the third", list(st(1, 2, 1, 0x84838281)), m, 2, 0, 4, sure(0x13811110))
	see(t, "one byte of four, the last", list(st(1, 3, 1, 0x84838281)), m, 2, 0, 4, sure(0x81121110))
	see(t, "from below", list(st(1, 2, 4, 0x84838281)), m, 2, 4, 4, sure(0x17168483))
	see(t, "from below, one byte", list(st(1, 1, 4, 0x84838281)), m, 2, 4, 4, sure(0x17161584))
	see(t, "from below, not so far", list(st(1, 0, 4, 0x84838281)), m, 2, 4, 4, sure(0x17161514))
	see(t, "beyond what is asked for", list(st(1, 6, 4, 0x84838281)), m, 2, 4, 4, sure(0x82811514))
	see(t, "from below and beyond", list(st(1, 3, 4, 0x84838281)), m, 2, 4, 2, sure(0x8382))
	two := list(st(1, 0, 2, 0x8281), st(2, 1, 1, 0x99))
	see(t, "two stores and memory", two, m, 3, 0, 4, sure(0x13129981))
	see(t, "the elder alone", two, m, 2, 0, 4, sure(0x13128281))
	see(t, "neither", two, m, 1, 0, 4, sure(0x13121110))
	apart := list(st(5, 3, 4, 0x04030201), st(7, 0, 1, 0x77))
	see(t, "two stores apart", apart, m, 9, 0, 4, sure(0x01121177))
	covers := list(st(1, 0, 1, 0x11), st(2, 1, 1, 0x22), st(3, 2, 1, 0x33), st(4, 3, 1, 0x44))
	see(t, "four stores", covers, m, 9, 0, 4, sure(0x44332211))
	see(t, "a word above them", append(covers, st(5, 0, 4, 0x55667788)), m, 9, 0, 4, sure(0x55667788))
	see(t, "a word below them", append(covers, st(0, 0, 4, 0x55667788)), m, 9, 0, 4, sure(0x44332211))
}

// TestSeeGreatest: I1: of several that have the byte it is the one of the greatest Seq below seq, wherever it stands.
func TestSeeGreatest(t *testing.T) {
	m := memory(4)
	a, b, c := st(1, 0, 1, 0xa1), st(2, 0, 1, 0xb2), st(3, 0, 1, 0xc3)
	for _, l := range [][]api.Access{{a, b, c}, {a, c, b}, {b, a, c}, {b, c, a}, {c, a, b}, {c, b, a}} {
		see(t, "all three", l, m, 4, 0, 1, sure(0xc3))
		see(t, "the third is seq's own", l, m, 3, 0, 1, sure(0xb2))
		see(t, "the second is seq's own", l, m, 2, 0, 1, sure(0xa1))
		see(t, "the first is seq's own", l, m, 1, 0, 1, sure(0x10))
		see(t, "all above", l, m, 0, 0, 1, sure(0x10))
	}
	see(t, "the greatest lacks the byte", list(st(3, 1, 1, 0xc3), b, a), m, 4, 0, 1, sure(0xb2))
	see(t, "the greatest has no bytes", list(b, st(3, 0, 0, 0xc3), a), m, 4, 0, 1, sure(0xb2))
	see(t, "below 0", list(st(-3, 0, 1, 0x33), st(-2, 0, 1, 0x22), st(-4, 0, 1, 0x44)), m, -1, 0, 1, sure(0x22))
}

// TestSeeSameSeq: I1: of several of the same Seq the last one in the list is taken, of those that have the byte.
func TestSeeSameSeq(t *testing.T) {
	m := memory(4)
	see(t, "two", list(st(1, 0, 1, 0xa1), st(1, 0, 1, 0xb2)), m, 2, 0, 1, sure(0xb2))
	see(t, "two, the other way round", list(st(1, 0, 1, 0xb2), st(1, 0, 1, 0xa1)), m, 2, 0, 1, sure(0xa1))
	see(t, "two, a lower one behind", list(st(1, 0, 1, 0xa1), st(1, 0, 1, 0xb2), st(0, 0, 1, 0xc3)), m, 2, 0, 1, sure(0xb2))
	see(t, "two, a lower one between", list(st(1, 0, 1, 0xa1), st(0, 0, 1, 0xc3), st(1, 0, 1, 0xb2)), m, 2, 0, 1, sure(0xb2))
	see(t, "two, a greater one between", list(st(1, 0, 1, 0xa1), st(2, 0, 1, 0xc3), st(1, 0, 1, 0xb2)), m, 3, 0, 1, sure(0xc3))
	see(t, "the last one lacks the byte", list(st(1, 0, 1, 0xa1), st(1, 1, 1, 0xb2)), m, 2, 0, 1, sure(0xa1))
	see(t, "the last one is not Known", list(st(1, 0, 1, 0xa1), un(1, 0, 1, 0xb2)), m, 2, 0, 1, unsure(0xa1))
	see(t, "byte by byte", list(st(1, 0, 2, 0xa1a1), st(1, 1, 2, 0xb2b2)), m, 2, 0, 4, sure(0x13b2b2a1))
}

// TestSeeSeqEnds: I1: the least and the greatest int are Seqs like all others.
func TestSeeSeqEnds(t *testing.T) {
	m := memory(4)
	ends := list(st(most, 0, 1, 0xff), st(least, 0, 1, 0x01))
	see(t, "both, for the least", ends, m, least, 0, 1, sure(0x10))
	see(t, "both, for the least but one", ends, m, least+1, 0, 1, sure(0x01))
	see(t, "both, for 0", ends, m, 0, 0, 1, sure(0x01))
	see(t, "both, for the greatest", ends, m, most, 0, 1, sure(0x01))
	see(t, "the greatest but one", list(st(most-1, 0, 1, 0xfe), st(least, 0, 1, 0x01)), m, most, 0, 1, sure(0xfe))
	see(t, "the least twice", list(st(least, 0, 1, 0x02), st(least, 0, 1, 0x03)), m, most, 0, 1, sure(0x03))
	see(t, "the least is not Known", list(un(least, 0, 1, 1)), m, most, 0, 1, unsure(0x10))
	see(t, "the least is not Known, for itself", list(un(least, 0, 1, 1)), m, least, 0, 1, sure(0x10))
	see(t, "the greatest is not Known", list(un(most, 0, 1, 1)), m, most, 0, 1, sure(0x10))
	see(t, "0 is not Known, for the least", list(un(0, 0, 1, 1)), m, least, 0, 1, sure(0x10))
}

// TestSeeUnknown: I1: what is not Known is not seen; below seq it makes the answer unsure, and only there.
func TestSeeUnknown(t *testing.T) {
	m := memory(8)
	see(t, "below", list(un(1, 0, 4, 0x04030201)), m, 2, 0, 4, unsure(0x13121110))
	see(t, "seq's own", list(un(2, 0, 4, 0x04030201)), m, 2, 0, 4, sure(0x13121110))
	see(t, "above", list(un(3, 0, 4, 0x04030201)), m, 2, 0, 4, sure(0x13121110))
	see(t, "below, elsewhere", list(un(1, 4, 4, 0x04030201)), m, 2, 0, 4, unsure(0x13121110))
	see(t, "below, no bytes", list(un(1, 0, 0, 0)), m, 2, 0, 4, unsure(0x13121110))
	see(t, "below, far away", list(un(1, top, 4, 0)), m, 2, 0, 4, unsure(0x13121110))
	known := st(3, 0, 2, 0x8281)
	see(t, "ahead of a Known one", list(un(1, 0, 4, 0), known), m, 5, 0, 4, unsure(0x13128281))
	see(t, "behind a Known one", list(known, un(4, 0, 4, 0)), m, 5, 0, 4, unsure(0x13128281))
	see(t, "between Known ones", list(known, un(4, 0, 4, 0), st(1, 3, 1, 0x99)), m, 5, 0, 4, unsure(0x99128281))
	see(t, "Known ones all", list(known, st(4, 0, 1, 0x77)), m, 5, 0, 4, sure(0x13128277))
	see(t, "not Known at and above seq", list(known, un(5, 0, 4, 0), un(6, 0, 4, 0)), m, 5, 0, 4, sure(0x13128281))
	see(t, "the last one alone is below", list(un(7, 0, 4, 0), un(6, 0, 4, 0), un(4, 0, 4, 0)), m, 5, 0, 4, unsure(0x13121110))
	see(t, "Done does not make it Known", list(api.Access{Seq: 1, Store: true, Many: 4, Data: 9, Done: true}), m, 2, 0, 4, unsure(0x13121110))
}

// TestSeeLoads: I1: loads give nothing, and are not asked whether they are Known.
func TestSeeLoads(t *testing.T) {
	m := memory(4)
	done, dark := ld(1, 0, 4), api.Access{Seq: 1, Many: 4, Data: 0xeeeeeeee}
	see(t, "a load", list(done), m, 3, 0, 4, sure(0x13121110))
	see(t, "a load that is not Known", list(dark), m, 3, 0, 4, sure(0x13121110))
	store := st(1, 0, 2, 0x8281)
	see(t, "behind a store", list(store, done, dark), m, 3, 0, 4, sure(0x13128281))
	see(t, "ahead of a store", list(done, dark, store), m, 3, 0, 4, sure(0x13128281))
	see(t, "greater than a store", list(ld(2, 0, 4), store), m, 3, 0, 4, sure(0x13128281))
	see(t, "among those that are not Known", list(dark, un(0, 0, 4, 0), done), m, 3, 0, 4, unsure(0x13121110))
}

// TestSeeStoresMany: I1: a store's Many below 0 is 0, above 4 it is 4, and 3 is 3.
func TestSeeStoresMany(t *testing.T) {
	m := memory(8)
	want := map[int]uint32{
		least: 0x13121110, math.MinInt32: 0x13121110, -4: 0x13121110, -1: 0x13121110, 0: 0x13121110,
		1: 0x13121181, 2: 0x13128281, 3: 0x13838281, 4: 0x84838281,
		5: 0x84838281, 8: 0x84838281, 256: 0x84838281, 1 << 32: 0x84838281, math.MaxInt32: 0x84838281, most: 0x84838281,
	}
	for many, w := range want {
		l := list(st(1, 0, many, 0x84838281))
		see(t, "from at on", l, m, 2, 0, 4, sure(w))
		see(t, "behind it", l, m, 2, 4, 4, sure(0x17161514))
		see(t, "not Known", list(un(1, 0, many, 0x84838281)), m, 2, 0, 4, unsure(0x13121110))
	}
	see(t, "3 from below", list(st(1, 2, 3, 0x84838281)), m, 2, 4, 4, sure(0x17161583))
	see(t, "the greatest from below", list(st(1, 2, most, 0x84838281)), m, 2, 4, 4, sure(0x17168483))
	see(t, "the least at a place above", list(st(1, 4, least, 0x84838281)), m, 2, 0, 4, sure(0x13121110))
}

// TestSeeStoreNearTheEnd: I1: bytes from the greatest places on are not those from 0 on.
func TestSeeStoreNearTheEnd(t *testing.T) {
	m := memory(8)
	for back := range uint32(6) {
		for _, many := range []int{1, 2, 3, 4, 5, most} {
			l := list(st(1, top-back, many, 0x84838281))
			see(t, "the first word", l, m, 2, 0, 4, sure(0x13121110))
			see(t, "the first byte", l, m, 2, 0, 1, sure(0x10))
			see(t, "the second word", l, m, 2, 4, 4, sure(0x17161514))
		}
	}
}

// TestWrongNone: I2: nothing is wrong where there is no store of that Seq that is Known.
func TestWrongNone(t *testing.T) {
	late := ld(5, 0, 4)
	for _, seq := range []int{least, -1, 0, 3, most} {
		right(t, "nil", nil, seq)
		right(t, "empty", list(), seq)
		right(t, "a load alone", list(late), seq)
		right(t, "a load of that Seq", list(ld(seq, 0, 4), late), seq)
		right(t, "a store that is not Known", list(un(seq, 0, 4, 0), late), seq)
		right(t, "two that are not Known", list(un(seq, 0, 4, 0), late, un(seq, 0, 4, 0)), seq)
	}
	right(t, "stores below and above", list(st(2, 0, 4, 0), st(4, 0, 4, 0), late), 3)
	right(t, "a store alone", list(st(3, 0, 4, 0)), 3)
	right(t, "Done does not make it Known", list(api.Access{Seq: 3, Store: true, Many: 4, Done: true}, late), 3)
}

// TestWrongLoad: I2: a load that is Done and Known, behind the store, that has a byte of it, was done too soon; and no other.
func TestWrongLoad(t *testing.T) {
	s := st(3, 4, 4, 0)
	wrong(t, "the same bytes", list(s, ld(5, 4, 4)), 3, 5)
	wrong(t, "next to it", list(s, ld(4, 4, 4)), 3, 4)
	wrong(t, "ahead in the list", list(ld(5, 4, 4), s), 3, 5)
	wrong(t, "whatever is stored", list(st(3, 4, 4, 0xeeeeeeee), ld(5, 4, 4)), 3, 5)
	right(t, "not Done", list(s, api.Access{Seq: 5, Known: true, At: 4, Many: 4}), 3)
	right(t, "not Known", list(s, api.Access{Seq: 5, At: 4, Many: 4, Done: true}), 3)
	right(t, "neither", list(s, api.Access{Seq: 5, At: 4, Many: 4}), 3)
	right(t, "of that Seq", list(s, ld(3, 4, 4)), 3)
	right(t, "of that Seq, ahead", list(ld(3, 4, 4), s), 3)
	right(t, "below it", list(s, ld(2, 4, 4), ld(-5, 4, 4)), 3)
	right(t, "a store", list(s, api.Access{Seq: 5, Store: true, Known: true, At: 4, Many: 4, Done: true}), 3)
	wrong(t, "a store ahead of a load", list(s, api.Access{Seq: 4, Store: true, Known: true, At: 4, Many: 4, Done: true}, ld(5, 4, 4)), 3, 5)
	wrong(t, "all of them", list(ld(2, 4, 4), s, ld(3, 4, 4), api.Access{Seq: 4, At: 4, Many: 4, Done: true}, api.Access{Seq: 5, Known: true, At: 4, Many: 4}, ld(6, 4, 4)), 3, 6)
	wrong(t, "0", list(st(-1, 4, 4, 0), ld(0, 4, 4)), -1, 0)
	wrong(t, "below 0", list(st(-9, 4, 4, 0), ld(-2, 4, 4), ld(0, 4, 4)), -9, -2)
}

// TestWrongBytes: I2: just one byte in common is enough, none is not.
func TestWrongBytes(t *testing.T) {
	for _, c := range []struct {
		name         string
		at           uint32
		many         int
		from         uint32
		load         int
		haveInCommon bool
	}{
		{"the store's first is the load's last", 4, 4, 1, 4, true},
		{"the store's last is the load's first", 4, 4, 7, 4, true},
		{"the load is next below", 4, 4, 0, 4, false},
		{"the load is next above", 4, 4, 8, 4, false},
		{"one byte, the first", 4, 4, 4, 1, true},
		{"one byte, between", 4, 4, 6, 1, true},
		{"one byte, the last", 4, 4, 7, 1, true},
		{"one byte, next below", 4, 4, 3, 1, false},
		{"one byte, next above", 4, 4, 8, 1, false},
		{"a store of one byte, the first", 4, 1, 4, 4, true},
		{"a store of one byte, the last", 7, 1, 4, 4, true},
		{"a store of one byte, next below", 3, 1, 4, 4, false},
		{"a store of one byte, next above", 8, 1, 4, 4, false},
		{"both one byte", 9, 1, 9, 1, true},
		{"both one byte, apart", 9, 1, 10, 1, false},
		{"halves of one word", 4, 2, 6, 2, false},
		{"halves of one word, the other way round", 6, 2, 4, 2, false},
		{"far apart", 0, 4, 1 << 31, 4, false},
		{"a place of more bits", 0, 4, 1 << 16, 4, false},
	} {
		l := list(st(3, c.at, c.many, 0), ld(5, c.from, c.load))
		if c.haveInCommon {
			wrong(t, c.name, l, 3, 5)
		} else {
			right(t, c.name, l, 3)
		}
	}
}

// TestWrongMany: I2: Many below 0 is 0, above 4 it is 4, of the store and of the load.
func TestWrongMany(t *testing.T) {
	none := []int{least, math.MinInt32, -4, -1, 0}
	for _, many := range none {
		for at := range uint32(9) {
			right(t, "a store of none", list(st(3, at, many, 0), ld(5, 4, 4)), 3)
			right(t, "a load of none", list(st(3, 4, 4, 0), ld(5, at, many)), 3)
		}
		right(t, "both of none", list(st(3, 4, many, 0), ld(5, 4, many)), 3)
	}
	for _, many := range []int{4, 5, 8, 256, 1 << 32, 1<<32 + 1, math.MaxInt32, most} {
		wrong(t, "a store of four, its last", list(st(3, 4, many, 0), ld(5, 7, 1)), 3, 5)
		right(t, "a store of four, behind it", list(st(3, 4, many, 0), ld(5, 8, 4)), 3)
		wrong(t, "a load of four, its last", list(st(3, 7, 1, 0), ld(5, 4, many)), 3, 5)
		right(t, "a load of four, behind it", list(st(3, 8, 4, 0), ld(5, 4, many)), 3)
		wrong(t, "both of four", list(st(3, 4, many, 0), ld(5, 7, many)), 3, 5)
		right(t, "both of four, apart", list(st(3, 4, many, 0), ld(5, 8, many)), 3)
	}
	wrong(t, "a store of 3, its last", list(st(3, 4, 3, 0), ld(5, 6, 1)), 3, 5)
	right(t, "a store of 3, behind it", list(st(3, 4, 3, 0), ld(5, 7, 1)), 3)
	wrong(t, "a load of 3, its last", list(st(3, 6, 1, 0), ld(5, 4, 3)), 3, 5)
	right(t, "a load of 3, behind it", list(st(3, 7, 1, 0), ld(5, 4, 3)), 3)
}

// TestWrongNearTheEnd: I2: bytes beyond the greatest place are none, and not those from 0 on.
func TestWrongNearTheEnd(t *testing.T) {
	for back := range uint32(4) {
		for _, many := range []int{4, 5, most} {
			for at := range uint32(4) {
				right(t, "the store's come round", list(st(3, top-back, many, 0), ld(5, at, 4)), 3)
				right(t, "the load's come round", list(st(3, at, 4, 0), ld(5, top-back, many)), 3)
			}
			wrong(t, "both have the greatest place", list(st(3, top-back, many, 0), ld(5, top, many)), 3, 5)
			wrong(t, "both have the greatest place, the other way round", list(st(3, top, many, 0), ld(5, top-back, many)), 3, 5)
			wrong(t, "the same bytes", list(st(3, top-back, many, 0), ld(5, top-back, many)), 3, 5)
			right(t, "next below", list(st(3, top-back, many, 0), ld(5, top-back-4, many)), 3)
		}
	}
	right(t, "one byte each, next to one another", list(st(3, top, 1, 0), ld(5, top-1, 1)), 3)
	right(t, "the store ends there", list(st(3, top-3, 4, 0), ld(5, 0, 4)), 3)
	right(t, "the load ends there", list(st(3, 0, 4, 0), ld(5, top-3, 4)), 3)
}

// TestWrongFirstStore: I2: of several stores of that Seq the first Known one is asked, and no other.
func TestWrongFirstStore(t *testing.T) {
	low, high := st(3, 0, 4, 0), st(3, 8, 4, 0)
	wrong(t, "the first has it", list(low, high, ld(5, 0, 4)), 3, 5)
	right(t, "the second has it", list(high, low, ld(5, 0, 4)), 3)
	wrong(t, "each has one", list(low, high, ld(4, 8, 4), ld(5, 0, 4)), 3, 5)
	wrong(t, "each has one, the other way round", list(high, low, ld(4, 8, 4), ld(5, 0, 4)), 3, 4)
	wrong(t, "one that is not Known ahead", list(un(3, 8, 4, 0), low, high, ld(4, 8, 4), ld(5, 0, 4)), 3, 5)
	right(t, "one that is not Known ahead, it has it", list(un(3, 0, 4, 0), high, ld(5, 0, 4)), 3)
	wrong(t, "one that is not Known behind", list(low, un(3, 8, 4, 0), ld(5, 0, 4)), 3, 5)
	wrong(t, "a load of that Seq ahead", list(ld(3, 8, 4), low, ld(4, 8, 4), ld(5, 0, 4)), 3, 5)
	wrong(t, "other stores ahead", list(st(2, 8, 4, 0), st(4, 8, 4, 0), low, ld(4, 8, 4), ld(5, 0, 4)), 3, 5)
	right(t, "the first has no bytes", list(st(3, 0, 0, 0), low, ld(5, 0, 4)), 3)
}

// TestWrongLeast: I2: of several loads the least Seq is told, wherever it stands.
func TestWrongLeast(t *testing.T) {
	a, b, c := ld(5, 0, 4), ld(6, 2, 2), ld(9, 3, 1)
	for _, l := range [][]api.Access{{a, b, c}, {a, c, b}, {b, a, c}, {b, c, a}, {c, a, b}, {c, b, a}} {
		wrong(t, "the store ahead", slices.Concat(list(st(3, 0, 4, 0)), l), 3, 5)
		wrong(t, "the store behind", slices.Concat(l, list(st(3, 0, 4, 0))), 3, 5)
		wrong(t, "the last byte", slices.Concat(l, list(st(3, 2, 4, 0))), 3, 5)
		wrong(t, "the first has none", slices.Concat(l, list(st(3, 4, 4, 0)), list(ld(12, 4, 1), ld(11, 4, 1))), 3, 11)
		wrong(t, "a store between", slices.Concat(l, list(st(5, 0, 4, 0))), 5, 6)
		wrong(t, "a store behind two", slices.Concat(l, list(st(6, 0, 4, 0))), 6, 9)
		right(t, "a store behind all", slices.Concat(l, list(st(9, 0, 4, 0))), 9)
	}
	wrong(t, "0 ahead of a greater one", list(st(-1, 0, 4, 0), ld(0, 0, 4), ld(2, 0, 4)), -1, 0)
	wrong(t, "0 ahead of a lower one", list(st(-9, 0, 4, 0), ld(0, 0, 4), ld(-2, 0, 4)), -9, -2)
	wrong(t, "two of the same Seq", list(ld(7, 0, 4), st(3, 0, 4, 0), ld(7, 0, 4)), 3, 7)
	wrong(t, "the least of all lacks the bytes", list(ld(4, 8, 4), st(3, 0, 4, 0), ld(8, 0, 4), ld(7, 0, 4)), 3, 7)
}

// TestWrongSeqEnds: I2: the least and the greatest int are Seqs like all others.
func TestWrongSeqEnds(t *testing.T) {
	low, high := st(least, 0, 4, 0), st(most, 0, 4, 0)
	wrong(t, "from the least to the next", list(low, ld(least+1, 0, 4)), least, least+1)
	wrong(t, "from the least to 0", list(low, ld(0, 0, 4)), least, 0)
	wrong(t, "from end to end", list(low, ld(most, 0, 4)), least, most)
	wrong(t, "the greatest ahead of a lower one", list(low, ld(most, 0, 4), ld(1, 0, 4)), least, 1)
	wrong(t, "from the last but one", list(st(most-1, 0, 4, 0), ld(most, 0, 4)), most-1, most)
	right(t, "the least, of that Seq", list(low, ld(least, 0, 4)), least)
	right(t, "the greatest, of that Seq", list(high, ld(most, 0, 4)), most)
	right(t, "nothing is above the greatest", list(high, ld(least, 0, 4), ld(0, 0, 4), ld(most, 0, 4)), most)
	right(t, "no such store", list(low, high, ld(0, 0, 4), ld(most, 0, 4)), 0)
}

// dice answers numbers that look mixed, the same ones each time.
func dice(seed uint32) func(int) int {
	return func(n int) int {
		seed = seed*1664525 + 1013904223
		return int(seed>>8) % n
	}
}

func pick[T any](roll func(int) int, of ...T) T { return of[roll(len(of))] }

// throw answers an access that has much in common with others that are thrown.
func throw(roll func(int) int) api.Access {
	return api.Access{
		Seq:   pick(roll, least, -1, 0, 1, 2, 3, 4, most),
		Store: roll(2) == 0,
		Known: roll(5) > 0,
		At:    pick(roll, uint32(0), 1, 2, 3, 4, 5, 6, 7, 8, top, top-1, top-2, top-3, top-4),
		Many:  pick(roll, least, -1, 0, 1, 1, 2, 2, 3, 4, 4, 5, most),
		Data:  uint32(roll(1<<16))<<16 | uint32(roll(1<<16)),
		Done:  roll(3) > 0,
	}
}

// placed answers the places that an access has, one after the other, and what its Data has for them.
func placed(a api.Access) map[uint64]byte {
	out := map[uint64]byte{}
	data := []byte{byte(a.Data), byte(a.Data >> 8), byte(a.Data >> 16), byte(a.Data >> 24)}
	for n, b := range data {
		if place := uint64(a.At) + uint64(n); n < a.Many && place <= top {
			out[place] = b
		}
	}
	return out
}

// inOrder answers the list sorted by Seq, those of one Seq as they stand.
func inOrder(l []api.Access) []api.Access {
	out := slices.Clone(l)
	slices.SortStableFunc(out, func(a, b api.Access) int { return cmp.Compare(a.Seq, b.Seq) })
	return out
}

// wantSee does the stores in order, and then looks.
func wantSee(l []api.Access, m []byte, seq int, at uint32, many int) seen {
	now := map[uint64]byte{}
	for n, b := range m {
		now[uint64(n)] = b
	}
	out := seen{ok: true, sure: true}
	if many != 1 && many != 2 && many != 4 || int(at)%many != 0 || int(at)+many > len(m) {
		return seen{}
	}
	for _, a := range inOrder(l) {
		if !a.Store || a.Seq >= seq {
			continue
		}
		if !a.Known {
			out.sure = false
			continue
		}
		for place, b := range placed(a) {
			now[place] = b
		}
	}
	for n := many - 1; n >= 0; n-- {
		out.w = out.w<<8 | uint32(now[uint64(at)+uint64(n)])
	}
	return out
}

// wantWrong lays the store's places out, and asks the loads in order.
func wantWrong(l []api.Access, seq int) (int, bool) {
	for _, s := range l {
		if s.Seq != seq || !s.Store || !s.Known {
			continue
		}
		theirs := placed(s)
		for _, a := range inOrder(l) {
			for place := range placed(a) {
				if _, both := theirs[place]; both && a.Seq > seq && !a.Store && a.Done && a.Known {
					return a.Seq, true
				}
			}
		}
		return 0, false
	}
	return 0, false
}

// TestThrown: I1, I2: of many lists the answers are as the words say, told here the other way round: stores are done in order, places laid out.
func TestThrown(t *testing.T) {
	roll := dice(9)
	many, mixed, found := 0, 0, 0
	for range 300000 {
		l := make([]api.Access, roll(9))
		for n := range l {
			l[n] = throw(roll)
		}
		was := slices.Clone(l)
		m := memory(pick(roll, 0, 3, 7, 8, 12))
		a := throw(roll)
		want := wantSee(l, m, a.Seq, a.At, a.Many)
		w, ok, all := See(l, m, a.Seq, a.At, a.Many)
		if (seen{w, ok, all}) != want {
			t.Fatalf("See of %v for %v: %v %v %v, not %v", l, a, w, ok, all, want)
		}
		seq, is := Wrong(l, a.Seq)
		if x, wanted := wantWrong(l, a.Seq); seq != x || is != wanted {
			t.Fatalf("Wrong of %v for %d: %d %v, not %d %v", l, a.Seq, seq, is, x, wanted)
		}
		if !slices.Equal(l, was) || !bytes.Equal(m, memory(len(m))) {
			t.Fatalf("what was handed in is not as it was: %v, not %v; %v", l, was, m)
		}
		if ok {
			many++
		}
		if plain := wantSee(nil, m, a.Seq, a.At, a.Many); ok && plain.w != w {
			mixed++
		}
		if is {
			found++
		}
	}
	if many < 10000 || mixed < 2000 || found < 2000 {
		t.Errorf("too few of a kind: %d are seen, %d of them of stores, %d wrong", many, mixed, found)
	}
}

// TestLikeMemory: I1: what a load sees behind stores that are under way is what it finds in a memory that they were done in.
func TestLikeMemory(t *testing.T) {
	roll := dice(31)
	stores, loads := map[int]int{1: api.SB, 2: api.SH, 4: api.SW}, map[int]int{1: api.LBU, 2: api.LHU, 4: api.LW}
	for range 300 {
		m := memory(16)
		now := slices.Clone(m)
		var l []api.Access
		for seq := range 24 {
			many := pick(roll, 1, 2, 4)
			at := uint32(roll(16/many) * many)
			w, ok, all := See(l, m, seq, at, many)
			if x, _ := mem.Load(now, loads[many], at); w != x || !ok || !all {
				t.Fatalf("%d bytes at %d behind %v: %x %v %v, not %x", many, at, l, w, ok, all, x)
			}
			if roll(3) == 0 {
				l = append(l, ld(seq, at, many))
				continue
			}
			s := st(seq, at, many, uint32(roll(1<<24))*0x101)
			now, _ = mem.Store(now, stores[many], at, s.Data)
			l = slices.Insert(l, roll(len(l)+1), s)
		}
	}
}

// TestWrongTellsWhatWouldBeSeen: I1, I2: a load that is done while a store is not Known yet either sees the same when it is, or is told to be wrong.
func TestWrongTellsWhatWouldBeSeen(t *testing.T) {
	roll := dice(77)
	changed, told := 0, 0
	for range 20000 {
		m := memory(8)
		at := roll(4)
		var l []api.Access
		for seq := range 4 {
			l = append(l, st(seq, uint32(roll(8)), pick(roll, 1, 2, 4), uint32(roll(1<<24))*0x101))
		}
		many := pick(roll, 1, 2, 4)
		place := uint32(roll(8/many) * many)
		l[at].Known = false
		before, _, all := See(l, m, 4, place, many)
		if all {
			t.Fatalf("%v: a store is not Known, but the answer is sure", l)
		}
		l[at].Known = true
		after, _, all := See(l, m, 4, place, many)
		if !all {
			t.Fatalf("%v: all stores are Known, but the answer is not sure", l)
		}
		seq, is := Wrong(append(l, ld(4, place, many)), at)
		if before != after && (!is || seq != 4) {
			t.Fatalf("%v: %x, then %x at %d, but %d %v", l, before, after, place, seq, is)
		}
		if before != after {
			changed++
		}
		if is {
			told++
		}
	}
	if changed < 1000 || told < changed {
		t.Errorf("too few of a kind: %d changed, %d told", changed, told)
	}
}

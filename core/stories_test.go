package core

import (
	"encoding/binary"
	"math"
	"testing"

	"humpyard/api"
)

// Where the stories have what they load and store: behind the greatest of their programs.
const data = 1536

// story is a program, the hart that it begins with, and whether something of it is to be taken back, when no choice is made and there is room.
type story struct {
	name string
	h    api.Hart
	m    []byte
	back bool
}

// before answers a hart that runs, with another word in each register, so that one that is taken for another shows; register 17 is 0, and register 8 is data.
func before(pc uint32) api.Hart {
	h := api.Hart{PC: pc}
	for n := 1; n < 32; n++ {
		h.Regs[n] = 0x91_00_00_00 + uint32(n)*0x01_03_05
	}
	h.Regs[8], h.Regs[17] = data, 0
	return h
}

// tells answers a story of a program that begins at 0, with bytes behind it.
func tells(t *testing.T, name string, parts ...any) story {
	t.Helper()
	return story{name: name, h: before(0), m: sized(data+256, program(t, list(parts...)...))}
}

// takesBack says of a story that it must have something that is taken back: else it does not ask what it is meant to.
func (s story) takesBack() story {
	s.back = true
	return s
}

// loop does instructions so many times, counting in register 5 to register 6, and halts.
func loop(times int32, parts ...any) []api.Ins {
	body := list(parts...)
	return list(set(5, 0), set(6, times), body, add(5, 1), si(api.BLTU, 5, 6, -4*int32(len(body)+1)), set(17, 0), ecall())
}

// eachKind has every kind of instruction, over and over, with other words each time.
func eachKind(t *testing.T) []story {
	var l []story
	mix := list(rr(api.ADD, 1, 1, 7), rr(api.SUB, 2, 2, 9), rr(api.XOR, 9, 9, 1))
	keep := list(rr(api.XOR, 10, 10, 3), rr(api.ADD, 11, 11, 4))
	for op := api.LUI; op <= api.EBREAK; op++ {
		var kind []api.Ins
		switch {
		case op <= api.AUIPC:
			kind = list(ui(op, 3, -1<<31+1<<12))
		case op == api.JAL:
			kind = list(ui(op, 3, 8), add(4, 1))
		case op == api.JALR:
			kind = list(ui(api.AUIPC, 12, 0), ri(op, 3, 12, 12), add(4, 1))
		case op <= api.BGEU:
			kind = list(si(op, 1, 2, 8), add(4, 1), si(op, 2, 1, 8), add(4, 5), si(op, 1, 1, 8), add(4, 7))
		case op <= api.LHU:
			kind = list(ri(op, 3, 8, 12), ri(op, 4, 8, -16))
		case op <= api.SW:
			kind = list(si(op, 8, 1, 8), si(op, 8, 2, -12), ri(api.LW, 3, 8, 8), ri(api.LW, 4, 8, -12))
		case op <= api.ANDI:
			kind = list(ri(op, 3, 1, -1365), ri(op, 4, 2, 1638))
		case op <= api.SRAI:
			kind = list(ri(op, 3, 1, 31), ri(op, 4, 2, 5))
		case op <= api.REMU:
			kind = list(rr(op, 3, 1, 2), rr(op, 4, 2, 0), rr(op, 12, 9, 4))
		case op == api.FENCE:
			kind = list(ri(op, 3, 1, 255), add(3, 1))
		case op == api.ECALL:
			kind = list(set(17, 1), ecall())
		default:
			kind = list(si(api.BNE, 5, 6, 8), ebreak(), add(3, 1))
		}
		l = append(l, tells(t, "kind "+string(rune('0'+op/10))+string(rune('0'+op%10)), loop(7, mix, kind, keep)))
	}
	return l
}

// branches are taken, and not, and change.
func branches(t *testing.T) []story {
	count := func(parts ...any) []api.Ins { return loop(40, parts...) }
	return []story{
		tells(t, "never taken", count(si(api.BNE, 0, 0, 12), add(1, 1), add(2, 2), add(3, 3))),
		tells(t, "always taken", count(si(api.BEQ, 0, 0, 12), add(1, 1), add(2, 2), add(3, 3))).takesBack(),
		tells(t, "in turn", count(ri(api.ANDI, 1, 5, 1), si(api.BEQ, 1, 0, 12), add(2, 2), add(3, 3), add(4, 4))).takesBack(),
		tells(t, "each third one", count(rr(api.REMU, 1, 5, 7), set(7, 3), si(api.BNE, 1, 0, 12), add(2, 2), add(3, 3), add(4, 4))).takesBack(),
		tells(t, "first not, then taken", count(ri(api.SLTI, 1, 5, 20), si(api.BEQ, 1, 0, 12), add(2, 2), add(3, 3), add(4, 4))).takesBack(),
		tells(t, "first taken, then not", count(ri(api.SLTI, 1, 5, 20), si(api.BNE, 1, 0, 12), add(2, 2), add(3, 3), add(4, 4))).takesBack(),
		tells(t, "late words", count(ri(api.ANDI, 1, 5, 3), chain(1, 3), si(api.BNE, 1, 0, 12), add(2, 2), si(api.SW, 8, 2, 4), add(4, 4))).takesBack(),
		tells(t, "a branch behind a branch", count(ri(api.ANDI, 1, 5, 1), ri(api.ANDI, 2, 5, 2), si(api.BEQ, 1, 0, 8), si(api.BEQ, 2, 0, 8), add(3, 3), add(4, 4))).takesBack(),
		tells(t, "to the next one", count(si(api.BEQ, 0, 0, 4), si(api.BNE, 0, 0, 4), add(1, 1))),
		tells(t, "loops in loops", count(set(1, 0), add(1, 1), add(2, 5), ri(api.SLTI, 3, 1, 5), si(api.BNE, 3, 0, -12))).takesBack(),
		tells(t, "a branch to itself", si(api.BGEU, 1, 2, 8), si(api.BEQ, 0, 0, 0), si(api.BGEU, 2, 1, 0)),
		tells(t, "a jump to itself", ui(api.JAL, 0, 0)),
		tells(t, "not far enough", count(ri(api.ANDI, 1, 5, 1), si(api.BNE, 1, 0, 6), add(2, 1))),
	}
}

// jumps go to a register's word.
func jumps(t *testing.T) []story {
	return []story{
		// Two calls of one function, which goes back to where it was called.
		tells(t, "there and back", loop(20, ui(api.JAL, 1, 16), add(2, 1), ui(api.JAL, 1, 8), ui(api.JAL, 0, 12), add(3, 7), ri(api.JALR, 0, 1, 0))).takesBack(),
		// Each time to another one of four.
		tells(t, "a row of places", loop(40, ri(api.ANDI, 1, 5, 3), ri(api.SLLI, 1, 1, 3), ui(api.AUIPC, 2, 0), rr(api.ADD, 2, 2, 1), ri(api.JALR, 3, 2, 12),
			add(4, 1), ui(api.JAL, 0, 28), add(4, 10), ui(api.JAL, 0, 20), add(4, 100), ui(api.JAL, 0, 12), add(4, 1000), nop())).takesBack(),
		tells(t, "to where it was, but once", loop(30, ri(api.SLTI, 1, 5, 15), ri(api.SLLI, 1, 1, 3), ui(api.AUIPC, 2, 0), rr(api.ADD, 2, 2, 1), ri(api.JALR, 3, 2, 12),
			add(4, 1), add(4, 10), add(4, 100), add(4, 1000))).takesBack(),
		tells(t, "its own register", ui(api.AUIPC, 1, 0), ri(api.JALR, 1, 1, 12), add(1, 1), add(1, 2), set(17, 0), ecall()),
		tells(t, "an odd place", ui(api.AUIPC, 1, 0), ri(api.JALR, 2, 1, 13), add(3, 1), add(3, 2), set(17, 0), ecall()),
		tells(t, "a place between words", ui(api.AUIPC, 1, 0), ri(api.JALR, 2, 1, 14), add(3, 1), add(3, 2), set(17, 0), ecall()),
		tells(t, "late, and far away", chain(1, 4), ri(api.JALR, 2, 1, 0), add(3, 1), si(api.SW, 8, 3, 0), ecall()).takesBack(),
		tells(t, "below 0", ui(api.JAL, 3, -8), add(3, 1)),
		tells(t, "to 0 again", add(3, 1), ri(api.ANDI, 4, 3, 7), si(api.BEQ, 4, 0, 8), ri(api.JALR, 0, 0, 0), ecall()).takesBack(),
	}
}

// registers are written again and again.
func registers(t *testing.T) []story {
	var one, each, cross []api.Ins
	for n := range 120 {
		r := n%31 + 1
		one = append(one, ri(api.ADDI, 1, 1, int32(n)), ri(api.SLLI, 1, 1, 1))
		each = append(each, ri(api.XORI, r, n*7%32, int32(n)))
		cross = append(cross, rr(api.ADD, r, n*5%32, n*11%32))
	}
	end := list(set(17, 0), ecall())
	zero := list(set(0, 77), ri(api.ADDI, 1, 0, 5), ui(api.LUI, 0, 1<<12), rr(api.ADD, 2, 0, 0), ui(api.AUIPC, 0, 1<<12), rr(api.OR, 3, 0, 1),
		ri(api.LW, 0, 8, 0), rr(api.ADD, 4, 0, 1), ui(api.JAL, 0, 8), add(9, 1), rr(api.SUB, 7, 0, 1), rr(api.MUL, 0, 1, 1), ri(api.JALR, 0, 0, 52), ecall(),
		si(api.SW, 8, 0, 0), ri(api.LW, 10, 8, 0), ri(api.FENCE, 11, 1, 3), ri(api.ADDI, 11, 11, 1))
	return []story{
		tells(t, "one register", one, end),
		tells(t, "each register", each, end),
		tells(t, "each of others", cross, end),
		tells(t, "one register, over and over", loop(9, one[:60])),
		tells(t, "each of others, over and over", loop(9, cross[:16], cross[20:30])),
		tells(t, "register 0", zero, end),
		tells(t, "register 0, over and over", loop(6, zero[:8])),
		tells(t, "written where it is taken back", loop(20, ri(api.ANDI, 1, 5, 1), chain(1, 2), si(api.BEQ, 1, 0, 16), add(2, 1), add(2, 2), add(2, 3), rr(api.ADD, 3, 3, 2))).takesBack(),
	}
}

// pieces lays bytes and loads them: each store with each load of the word that it is in.
func pieces() []api.Ins {
	var l []api.Ins
	type piece struct {
		op   int
		many int32
	}
	for _, store := range []piece{{api.SB, 1}, {api.SH, 2}, {api.SW, 4}} {
		for at := int32(0); at < 4; at += store.many {
			l = append(l, add(1, 1365), rr(api.MUL, 2, 2, 1), si(store.op, 8, 2, at))
			for _, load := range []piece{{api.LB, 1}, {api.LBU, 1}, {api.LH, 2}, {api.LHU, 2}, {api.LW, 4}} {
				for from := int32(0); from < 4; from += load.many {
					l = append(l, ri(load.op, 3, 8, from), rr(api.XOR, 4, 4, 3), ri(api.SLLI, 4, 4, 1))
				}
			}
		}
	}
	return l
}

// memories load behind stores.
func memories(t *testing.T) []story {
	end := list(set(17, 0), ecall())
	// Register 7 is where it is stored, told late.
	late := func(from int32) []api.Ins { return list(ri(api.ADDI, 7, 8, from), chain(7, 3)) }
	return []story{
		tells(t, "the same word", loop(20, ri(api.LW, 1, 8, 0), add(1, 1), si(api.SW, 8, 1, 0))).takesBack(),
		tells(t, "others", loop(20, ri(api.LW, 1, 8, 0), add(1, 1), si(api.SW, 8, 1, 4), si(api.SB, 8, 1, 9))),
		tells(t, "one ahead of the other", loop(20, si(api.SW, 8, 5, 0), si(api.SB, 8, 1, 1), si(api.SH, 8, 6, 2), ri(api.LW, 1, 8, 0), ri(api.LH, 2, 8, 2), ri(api.LB, 3, 8, 1))),
		tells(t, "pieces", pieces(), end),
		tells(t, "late, the same", loop(12, late(0), si(api.SW, 7, 5, 0), ri(api.LW, 1, 8, 0), rr(api.ADD, 2, 2, 1))).takesBack(),
		tells(t, "late, a byte of it", loop(12, late(2), si(api.SB, 7, 5, 0), ri(api.LW, 1, 8, 0), rr(api.ADD, 2, 2, 1))).takesBack(),
		tells(t, "late, more than it", loop(12, late(0), si(api.SW, 7, 5, 0), ri(api.LB, 1, 8, 3), ri(api.LBU, 2, 8, 0), rr(api.ADD, 2, 2, 1))).takesBack(),
		tells(t, "late, others", loop(12, late(4), si(api.SW, 7, 5, 0), ri(api.LW, 1, 8, 0), ri(api.LHU, 2, 8, 8), rr(api.ADD, 2, 2, 1))),
		tells(t, "late, in turn", loop(12, ri(api.ANDI, 7, 5, 1), ri(api.SLLI, 7, 7, 2), rr(api.ADD, 7, 7, 8), chain(7, 3), si(api.SW, 7, 5, 0), ri(api.LW, 1, 8, 0), rr(api.ADD, 2, 2, 1))).takesBack(),
		tells(t, "two late ones", loop(12, late(0), ri(api.ADDI, 9, 8, 1), chain(9, 5), si(api.SW, 7, 5, 0), si(api.SB, 9, 6, 0), ri(api.LW, 1, 8, 0), ri(api.LH, 2, 8, 0), rr(api.ADD, 3, 1, 2))).takesBack(),
		tells(t, "late words, not places", loop(12, chain(5, 3), si(api.SW, 8, 5, 0), ri(api.LW, 1, 8, 0), rr(api.ADD, 2, 2, 1))).takesBack(),
		tells(t, "where one has loaded", ri(api.LW, 1, 8, 0), loop(8, ri(api.ANDI, 1, 1, 60), rr(api.ADD, 1, 1, 8), ri(api.LW, 1, 1, 0), si(api.SW, 8, 1, 0), ri(api.LW, 2, 8, 0))),
		tells(t, "late, and can't be", late(1), si(api.SW, 7, 5, 0), ri(api.LW, 1, 8, 0), add(1, 1), si(api.SW, 8, 1, 4)).takesBack(),
	}
}

// values are guessed, and come out otherwise.
func values(t *testing.T) []story {
	rising := tells(t, "rising, and then not", loop(40, rr(api.ADD, 2, 8, 7), ri(api.LW, 1, 2, 0), rr(api.ADD, 3, 3, 1), si(api.SW, 8, 3, 200), add(7, 4))).takesBack()
	rising.h.Regs[7] = 0
	for n := range 40 {
		w := uint32(100 + 8*n)
		if n > 20 && n%4 == 0 {
			w = uint32(n)
		}
		binary.LittleEndian.PutUint32(rising.m[data+4*n:], w)
	}
	pointers := tells(t, "places that are loaded", loop(40, ri(api.LW, 8, 8, 0), rr(api.ADD, 3, 3, 8))).takesBack()
	for n := range 12 {
		binary.LittleEndian.PutUint32(pointers.m[data+4*n:], uint32(data+4*n+4))
	}
	binary.LittleEndian.PutUint32(pointers.m[data+48:], data+8)
	return []story{
		rising,
		pointers,
		tells(t, "the same, and then another", loop(30, ri(api.LB, 1, 8, 0), rr(api.ADD, 2, 2, 1), ri(api.SLTI, 3, 5, 12), si(api.BNE, 3, 0, 8), si(api.SB, 8, 5, 0))).takesBack(),
		tells(t, "a guess that a branch goes by", loop(30, ri(api.LW, 1, 8, 0), si(api.BEQ, 1, 0, 8), add(2, 1), ri(api.ANDI, 3, 5, 4), si(api.SW, 8, 3, 0))).takesBack(),
		tells(t, "a guess that a store goes by", loop(30, ri(api.LHU, 1, 8, 0), ri(api.ANDI, 1, 1, 28), rr(api.ADD, 2, 8, 1), si(api.SW, 2, 5, 4), ri(api.LW, 3, 8, 12), rr(api.SUB, 4, 4, 3), ri(api.ANDI, 7, 5, 8), si(api.SH, 8, 7, 0))).takesBack(),
		tells(t, "a guess that a load goes by", loop(20, ri(api.LBU, 1, 8, 0), ri(api.ANDI, 1, 1, 12), rr(api.ADD, 2, 8, 1), ri(api.LW, 3, 2, 4), rr(api.XOR, 4, 4, 3), ri(api.SRLI, 7, 5, 1), si(api.SB, 8, 7, 0))).takesBack(),
		tells(t, "a guess that a jump goes by", loop(20, ri(api.ANDI, 1, 5, 8), ui(api.AUIPC, 2, 0), rr(api.ADD, 2, 2, 1), si(api.SW, 8, 2, 0), ri(api.LW, 3, 8, 0), ri(api.JALR, 4, 3, 20), add(7, 1), add(7, 2), add(7, 4))).takesBack(),
	}
}

// over tells of stores into the program itself: the word is loaded from data, and stored so many instructions behind the store.
func over(t *testing.T, name string, op int, w uint32, at int32, behind ...api.Ins) story {
	t.Helper()
	s := tells(t, name, ri(api.LW, 1, 8, 0), si(op, 0, 1, at), behind, set(17, 0), ecall())
	binary.LittleEndian.PutUint32(s.m[data:], w)
	return s.takesBack()
}

// themselves are programs that change what they are.
func themselves(t *testing.T) []story {
	other, far := told(t, add(2, 100)), list(add(3, 1), add(4, 2), nop(), nop(), nop(), nop(), nop(), nop(), add(2, 1), add(7, 3))
	l := []story{
		over(t, "the next one", api.SW, other, 8, add(2, 1), add(3, 1)),
		over(t, "the one behind it", api.SW, other, 12, add(2, 1), add(3, 1)),
		over(t, "one that is far away", api.SW, other, 40, far...),
		over(t, "a half of it", api.SH, other>>16, 10, add(2, 1), add(3, 1)),
		over(t, "a byte of it", api.SB, other>>24, 11, add(2, 1), add(3, 1)),
		over(t, "one that comes to be none", api.SW, 0, 12, add(3, 1), add(2, 1), add(4, 1)),
		over(t, "one that was none", api.SW, other, 12, add(3, 1), api.Ins{}, add(4, 1)),
		over(t, "one that comes to be a jump", api.SW, told(t, ui(api.JAL, 7, 12)), 12, add(3, 1), add(2, 1), add(4, 1), add(9, 1)),
		over(t, "one that was a jump", api.SW, other, 12, add(3, 1), ui(api.JAL, 7, 12), add(4, 1), add(9, 1)),
		over(t, "one that comes to be a store", api.SW, told(t, si(api.SW, 8, 3, 8)), 12, add(3, 1), add(2, 1), ri(api.LW, 4, 8, 8)),
		over(t, "one that comes to halt", api.SW, 115, 12, add(3, 1), add(2, 1), si(api.SW, 8, 2, 4)),
		over(t, "one that halts", api.SW, other, 8, ecall(), add(2, 1), si(api.SW, 8, 2, 4)),
		over(t, "a part of two", api.SH, 0x0110, 14, add(2, 1), add(3, 1), add(4, 1)),
	}
	itself := over(t, "itself", api.SW, other, 4, add(2, 1), add(3, 1))
	itself.back = false
	behind := over(t, "one that is over", api.SW, other, 0, add(2, 1), add(3, 1))
	behind.back = false
	late := tells(t, "late", ri(api.ADDI, 7, 0, 40), chain(7, 3), ri(api.LW, 1, 8, 0), si(api.SW, 7, 1, 0), add(3, 1), add(2, 1), add(4, 1), set(17, 0), ecall()).takesBack()
	binary.LittleEndian.PutUint32(late.m[data:], other)
	// Each time round an instruction ahead of it counts by one more.
	grows := tells(t, "over and over", loop(12, add(2, 1), ri(api.LW, 1, 0, 8), rr(api.ADD, 1, 1, 7), si(api.SW, 0, 1, 8))).takesBack()
	grows.h.Regs[7] = 1 << 20
	next := tells(t, "the next one, over and over", loop(12, ri(api.LW, 1, 0, 20), rr(api.ADD, 1, 1, 7), si(api.SW, 0, 1, 20), add(2, 1))).takesBack()
	next.h.Regs[7] = 1 << 20
	return append(l, itself, behind, late, grows, next)
}

// bad is what can't be, or is not to be done.
type bad struct {
	name string
	does []api.Ins
}

func bads() []bad {
	return []bad{
		{"no instruction", []api.Ins{{}}},
		{"no word", []api.Ins{ui(api.JAL, 3, 1<<13)}},
		{"a load between words", []api.Ins{ri(api.LW, 3, 8, 2)}},
		{"a half between", []api.Ins{ri(api.LH, 3, 8, 1)}},
		{"a load that is not", []api.Ins{ri(api.LB, 3, 8, 256)}},
		{"a store between", []api.Ins{si(api.SW, 8, 3, 1)}},
		{"a store that is not", []api.Ins{si(api.SB, 8, 3, 256)}},
		{"a store below 0", []api.Ins{si(api.SH, 0, 3, -2)}},
		{"a load below 0", []api.Ins{ri(api.LHU, 3, 0, -2)}},
		{"an ebreak", []api.Ins{ebreak()}},
		{"an ecall", []api.Ins{ecall()}},
		{"no such call", []api.Ins{set(17, 2), ecall()}},
		{"a call that tells", []api.Ins{set(17, 1), ecall()}},
		{"a store", []api.Ins{si(api.SW, 8, 9, 0)}},
		{"a jump between", []api.Ins{ri(api.JALR, 3, 0, 2)}},
	}
}

// wrongs reach what can't be, and what halts; and go by it.
func wrongs(t *testing.T) []story {
	var l []story
	behind := list(add(3, 1), si(api.SW, 8, 3, 0), set(17, 1), ecall())
	end := list(ri(api.LW, 7, 8, 0), set(17, 0), ecall())
	for _, some := range bads() {
		name, b := some.name, some.does
		size := 4 * int32(len(b)+len(behind)+1)
		l = append(l,
			tells(t, name, add(1, 1), b, behind, end),
			tells(t, name+", late", chain(8, 3), chain(17, 3), b, behind, end),
			tells(t, name+", behind a branch", chain(1, 4), si(api.BEQ, 1, 1, size), b, behind, end).takesBack(),
			tells(t, name+", behind a jump", ui(api.AUIPC, 1, 0), chain(1, 4), ri(api.JALR, 2, 1, size+36), b, behind, end).takesBack(),
			tells(t, name+", behind a jump that is known", ui(api.JAL, 2, size), b, behind, end),
			tells(t, name+", at last", loop(9, ri(api.SLTI, 1, 5, 7), si(api.BNE, 1, 0, size), b, behind, add(9, 1))),
			tells(t, name+", behind a halt", set(17, 0), ecall(), b, behind, end),
			tells(t, name+", behind a break", chain(1, 2), ebreak(), b, behind, end),
		)
	}
	return l
}

// ends are programs that run out of their memory, and those that have none.
func ends(t *testing.T) []story {
	var l []story
	code := program(t, add(1, 1), add(2, 2), si(api.BNE, 0, 0, 100), add(3, 3))
	for n := range len(code) + 1 {
		l = append(l, story{name: "out of its memory", h: before(0), m: code[:n]})
	}
	whole := sized(api.MaxMemory, nil)
	copy(whole[api.MaxMemory-16:], code)
	for _, pc := range []uint32{0, 1, 2, 3, 8, api.MaxMemory - 16, api.MaxMemory - 4, api.MaxMemory - 2, api.MaxMemory, 1 << 31, math.MaxUint32 - 3, math.MaxUint32} {
		l = append(l, story{name: "another beginning", h: before(pc), m: whole}, story{name: "no memory", h: before(pc), m: nil}, story{name: "an empty memory", h: before(pc), m: []byte{}})
	}
	return l
}

// stand are harts that do not run from the start.
func stand() []story {
	var l []story
	for cause := 0; cause <= api.CauseBreak; cause++ {
		s := story{name: "one that stands", h: before(0), m: sized(64, nil)}
		s.h.State, s.h.Cause = api.Trapped, cause
		if cause == 0 {
			s.h.State = api.Halted
		}
		l = append(l, s)
	}
	return l
}

// calls tell something, and halt.
func calls(t *testing.T) []story {
	return []story{
		tells(t, "halts at once", ecall()),
		tells(t, "tells", loop(10, add(10, 7), set(17, 1), ecall(), add(10, 1))),
		tells(t, "tells late", loop(10, add(10, 7), chain(10, 3), set(17, 1), ecall(), set(17, 5), add(10, 1))),
		tells(t, "what is called is loaded", loop(10, ri(api.LBU, 17, 8, 0), ri(api.SLTIU, 17, 17, 999), ecall(), ri(api.SLTIU, 11, 5, 6), si(api.SB, 8, 11, 0))),
		tells(t, "halts late", set(17, 1), chain(17, 4), add(17, -1), ecall(), si(api.SW, 8, 1, 0), set(17, 1), ecall()).takesBack(),
	}
}

// stories answers all of them.
func stories(t *testing.T) []story {
	var l []story
	for _, some := range [][]story{eachKind(t), branches(t), jumps(t), registers(t), memories(t), values(t), themselves(t), wrongs(t), ends(t), stand(), calls(t)} {
		l = append(l, some...)
	}
	return l
}

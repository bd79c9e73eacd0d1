package hart

import (
	"bytes"
	"encoding/binary"
	"math"
	"slices"
	"testing"

	"humpyard/api"
	"humpyard/decode"
)

// before answers a hart that runs, with another word in each register, so that one that is taken for another shows; and Regs[17] 0.
func before(pc uint32) api.Hart {
	h := api.Hart{PC: pc}
	for n := 1; n < 32; n++ {
		h.Regs[n] = 0x91_00_00_00 + uint32(n)*0x01_03_05
	}
	h.Regs[17] = 0
	return h
}

// held answers so many bytes of which each is another, with the word at PC.
func held(size int, pc, w uint32) []byte {
	m := make([]byte, size)
	for n := range m {
		m[n] = byte(n*89 + 120)
	}
	binary.LittleEndian.PutUint32(m[pc:], w)
	return m
}

func told(t *testing.T, i api.Ins) uint32 {
	t.Helper()
	w, e := decode.Encode(i)
	if e != api.OK {
		t.Fatalf("%v is no instruction", i)
	}
	return w
}

// does holds Step against what is wanted, and what was handed in and what comes out against each other.
func does(t *testing.T, name string, h api.Hart, m []byte, c api.Commit, behind api.Hart, left []byte) {
	t.Helper()
	was := bytes.Clone(m)
	gotCommit, gotHart, gotMemory, ok := Step(h, m)
	if !ok {
		t.Errorf("%s: nothing was done", name)
	}
	if gotCommit != c {
		t.Errorf("%s: the commit is\n%+v, not\n%+v", name, gotCommit, c)
	}
	if gotHart != behind {
		t.Errorf("%s: the hart is\n%+v, not\n%+v", name, gotHart, behind)
	}
	if !bytes.Equal(gotMemory, left) {
		t.Errorf("%s: the memory is\n%v, not\n%v", name, gotMemory, left)
	}
	if !May(gotHart) {
		t.Errorf("%s: %+v may not be", name, gotHart)
	}
	for n := range gotMemory {
		gotMemory[n]++
	}
	if !bytes.Equal(m, was) {
		t.Errorf("%s: what was handed in is not as it was", name)
	}
}

// traps: the hart is as it was but for State and Cause, and the commit has nothing else.
func traps(t *testing.T, name string, h api.Hart, m []byte, cause int) {
	t.Helper()
	after := h
	after.State, after.Cause = api.Trapped, cause
	c := api.Commit{PC: h.PC, Next: h.PC, State: api.Trapped, Cause: cause}
	does(t, name, h, m, c, after, m)
}

// gives: the hart goes on at next, and rd, where it is not 0, has a word.
func gives(t *testing.T, name string, h api.Hart, m []byte, next uint32, rd int, w uint32) {
	t.Helper()
	after := h
	after.PC = next
	c := api.Commit{PC: h.PC, Next: next}
	if rd != 0 {
		after.Regs[rd] = w
		c.Rd, c.Value = rd, w
	}
	does(t, name, h, m, c, after, m)
}

func refuses(t *testing.T, name string, h api.Hart, m []byte) {
	t.Helper()
	was := bytes.Clone(m)
	if c, x, l, ok := Step(h, m); ok || c != (api.Commit{}) || x != (api.Hart{}) || len(l) != 0 {
		t.Errorf("%s: %+v %+v %d bytes %v", name, c, x, len(l), ok)
	}
	if !bytes.Equal(m, was) {
		t.Errorf("%s: what was handed in is not as it was", name)
	}
}

// TestMay: D1.
func TestMay(t *testing.T) {
	for _, c := range []struct {
		name         string
		zero         uint32
		state, cause int
		may          bool
	}{
		{"runs", 0, api.Runs, 0, true},
		{"halted", 0, api.Halted, 0, true},
		{"trapped, the first cause", 0, api.Trapped, api.CauseFetch, true},
		{"trapped, one between", 0, api.Trapped, api.CauseLoad, true},
		{"trapped, the last cause", 0, api.Trapped, api.CauseBreak, true},
		{"register 0 is 1", 1, api.Runs, 0, false},
		{"register 0 is the greatest", math.MaxUint32, api.Runs, 0, false},
		{"register 0, halted", 1 << 31, api.Halted, 0, false},
		{"register 0, trapped", 1, api.Trapped, api.CauseCall, false},
		{"below Runs", 0, api.Runs - 1, 0, false},
		{"below Runs, with a cause", 0, api.Runs - 1, api.CauseFetch, false},
		{"above Trapped", 0, api.Trapped + 1, 0, false},
		{"above Trapped, with a cause", 0, api.Trapped + 1, api.CauseFetch, false},
		{"the least state", 0, math.MinInt, 0, false},
		{"the greatest state", 0, math.MaxInt, 0, false},
		{"runs, with a cause", 0, api.Runs, api.CauseFetch, false},
		{"runs, with a cause below 0", 0, api.Runs, -1, false},
		{"halted, with a cause", 0, api.Halted, api.CauseBreak, false},
		{"trapped, no cause", 0, api.Trapped, 0, false},
		{"trapped, a cause below 0", 0, api.Trapped, -1, false},
		{"trapped, a cause beyond", 0, api.Trapped, api.CauseBreak + 1, false},
		{"trapped, the least cause", 0, api.Trapped, math.MinInt, false},
		{"trapped, the greatest cause", 0, api.Trapped, math.MaxInt, false},
	} {
		h := before(4)
		h.Regs[0], h.State, h.Cause = c.zero, c.state, c.cause
		if May(h) != c.may {
			t.Errorf("%s: %v", c.name, !c.may)
		}
		m := held(16, 4, told(t, api.Ins{Op: api.ADDI, Rd: 1, Imm: 1}))
		if !c.may || c.state != api.Runs {
			refuses(t, c.name, h, m)
		} else if _, _, _, ok := Step(h, m); !ok {
			t.Errorf("%s: nothing was done", c.name)
		}
	}
	if !May(api.Hart{}) {
		t.Error("an empty hart may not be")
	}
	if h := before(math.MaxUint32); !May(h) {
		t.Error("a hart may have any PC and any other registers")
	}
}

// TestSizes: D1: a memory of MaxMemory bytes, one more, and none.
func TestSizes(t *testing.T) {
	w := told(t, api.Ins{Op: api.ADDI, Rd: 1, Imm: 7})
	gives(t, "MaxMemory", before(0), held(api.MaxMemory, 0, w), 4, 1, 7)
	gives(t, "MaxMemory, the last word", before(api.MaxMemory-4), held(api.MaxMemory, api.MaxMemory-4, w), api.MaxMemory, 1, 7)
	refuses(t, "one more", before(0), held(api.MaxMemory+1, 0, w))
	refuses(t, "twice", before(0), held(2*api.MaxMemory, 0, w))
	refuses(t, "one more, no word to fetch", before(math.MaxUint32), held(api.MaxMemory+1, 0, w))
	traps(t, "nil", before(0), nil, api.CauseFetch)
	traps(t, "empty", before(0), []byte{}, api.CauseFetch)
}

// TestFetch: D2: where there is no word.
func TestFetch(t *testing.T) {
	w := told(t, api.Ins{Op: api.ADDI, Rd: 1, Imm: 1})
	m := held(16, 12, w)
	gives(t, "the last word", before(12), m, 16, 1, 1)
	for _, pc := range []uint32{1, 2, 3, 5, 6, 7, 13, 14, 15, 16, 17, 20, 4096, 1 << 31, math.MaxUint32 - 7, math.MaxUint32 - 3, math.MaxUint32 - 2, math.MaxUint32 - 1, math.MaxUint32} {
		traps(t, "no word", before(pc), m, api.CauseFetch)
	}
	traps(t, "three bytes", before(0), held(4, 0, w)[:3], api.CauseFetch)
	traps(t, "a byte behind the length", before(12), m[:15], api.CauseFetch)
}

// TestWord: D2: words that are no instruction.
func TestWord(t *testing.T) {
	for _, w := range []uint32{0, math.MaxUint32, 0x00001067, 0x00003003, 0x00003023, 0x40001013, 0x40001033, 0x04000033, 0x00200073, 0x0000100f} {
		traps(t, "no instruction", before(8), held(16, 8, w), api.CauseWord)
	}
}

// reckoned has each instruction that gives a word of a, b, its Imm and PC alone: what it gives at the PC 8, and where it goes on.
var reckoned = []struct {
	op   int
	a, b uint32
	imm  int32
	w    uint32
	next uint32
}{
	{api.LUI, 1, 1, 0x12345000, 0x12345000, 12},
	{api.LUI, 1, 1, math.MinInt32, 1 << 31, 12},
	{api.LUI, 1, 1, 0, 0, 12},
	{api.AUIPC, 1, 1, 0x12345000, 0x12345008, 12},
	{api.AUIPC, 1, 1, -4096, 0xfffff008, 12},
	{api.AUIPC, 1, 1, 0, 8, 12},
	{api.JAL, 1, 1, 0, 12, 8},
	{api.JAL, 1, 1, 4, 12, 12},
	{api.JAL, 1, 1, 1<<20 - 2, 12, 0x100006},
	{api.JAL, 1, 1, -8, 12, 0},
	{api.JAL, 1, 1, -10, 12, 0xfffffffe},
	{api.JAL, 1, 1, -1 << 20, 12, 0xfff00008},
	{api.JALR, 100, 1, 4, 12, 104},
	{api.JALR, 101, 1, 4, 12, 104},
	{api.JALR, 100, 1, 5, 12, 104},
	{api.JALR, 101, 1, 5, 12, 106},
	{api.JALR, 1, 1, 0, 12, 0},
	{api.JALR, 0, 1, -1, 12, 0xfffffffe},
	{api.JALR, 0xffffffff, 1, 0, 12, 0xfffffffe},
	{api.JALR, 0xffffffff, 1, 1, 12, 0},
	{api.JALR, 0xffffffff, 1, 2047, 12, 0x7fe},
	{api.JALR, 0, 1, -2048, 12, 0xfffff800},
	{api.ADDI, 41, 7, 1, 42, 12},
	{api.ADDI, 0, 7, -1, 0xffffffff, 12},
	{api.ADDI, 0xffffffff, 7, 2, 1, 12},
	{api.SLTI, 0xffffffff, 7, 0, 1, 12},
	{api.SLTI, 0, 7, -1, 0, 12},
	{api.SLTI, 5, 7, 5, 0, 12},
	{api.SLTIU, 0xffffffff, 7, 0, 0, 12},
	{api.SLTIU, 5, 7, -1, 1, 12},
	{api.SLTIU, 5, 7, 5, 0, 12},
	{api.XORI, 0x0f0f0f0f, 7, -1, 0xf0f0f0f0, 12},
	{api.XORI, 12, 7, 10, 6, 12},
	{api.ORI, 12, 7, 10, 14, 12},
	{api.ORI, 1, 7, -2048, 0xfffff801, 12},
	{api.ANDI, 12, 7, 10, 8, 12},
	{api.ANDI, 0x12345678, 7, -16, 0x12345670, 12},
	{api.SLLI, 0x80000001, 7, 1, 2, 12},
	{api.SLLI, 1, 7, 31, 1 << 31, 12},
	{api.SLLI, 9, 7, 0, 9, 12},
	{api.SRLI, 0x80000000, 7, 4, 0x08000000, 12},
	{api.SRLI, 0xffffffff, 7, 31, 1, 12},
	{api.SRAI, 0x80000000, 7, 4, 0xf8000000, 12},
	{api.SRAI, 0xffffffff, 7, 31, 0xffffffff, 12},
	{api.SRAI, 0x40000000, 7, 30, 1, 12},
	{api.ADD, 0xffffffff, 2, 0, 1, 12},
	{api.SUB, 3, 5, 0, 0xfffffffe, 12},
	{api.SLL, 3, 33, 0, 6, 12},
	{api.SLT, 0xffffffff, 1, 0, 1, 12},
	{api.SLTU, 0xffffffff, 1, 0, 0, 12},
	{api.SLTU, 1, 2, 0, 1, 12},
	{api.XOR, 12, 10, 0, 6, 12},
	{api.SRL, 0x80000000, 36, 0, 0x08000000, 12},
	{api.SRA, 0x80000000, 36, 0, 0xf8000000, 12},
	{api.OR, 12, 10, 0, 14, 12},
	{api.AND, 12, 10, 0, 8, 12},
	{api.MUL, 0x10001, 0x10001, 0, 0x20001, 12},
	{api.MULH, 1 << 31, 2, 0, 0xffffffff, 12},
	{api.MULHSU, 0xffffffff, 0xffffffff, 0, 0xffffffff, 12},
	{api.MULHU, 0xffffffff, 0xffffffff, 0, 0xfffffffe, 12},
	{api.DIV, 0xfffffff9, 2, 0, 0xfffffffd, 12},
	{api.DIV, 1 << 31, 0xffffffff, 0, 1 << 31, 12},
	{api.DIV, 7, 0, 0, 0xffffffff, 12},
	{api.DIVU, 0xfffffff9, 2, 0, 0x7ffffffc, 12},
	{api.DIVU, 7, 0, 0, 0xffffffff, 12},
	{api.REM, 0xfffffff9, 2, 0, 0xffffffff, 12},
	{api.REM, 7, 0, 0, 7, 12},
	{api.REMU, 0xfffffff9, 2, 0, 1, 12},
	{api.REMU, 7, 0, 0, 7, 12},
}

// hasRs1 and hasRs2: by op, whether an instruction has such a register.
func hasRs1(op int) bool { return op >= api.JALR && op <= api.FENCE }

func hasRs2(op int) bool {
	return op >= api.BEQ && op <= api.BGEU || op >= api.SB && op <= api.SW || op >= api.ADD && op <= api.REMU
}

// placed answers an instruction and a hart at the PC 8 that has a and b where the instruction looks for them.
func placed(op, rd, rs1, rs2 int, imm int32, a, b uint32) (api.Ins, api.Hart) {
	i, h := api.Ins{Op: op, Rd: rd, Imm: imm}, before(8)
	if hasRs1(op) {
		i.Rs1, h.Regs[rs1] = rs1, a
	}
	if hasRs2(op) {
		i.Rs2, h.Regs[rs2] = rs2, b
	}
	return i, h
}

// TestReckoned: D2, D3: with Rd 0, one of its own, and the same as Rs1 or as Rs2.
func TestReckoned(t *testing.T) {
	seen := map[int]bool{}
	for _, c := range reckoned {
		seen[c.op] = true
		for _, rd := range []int{0, 1, 5, 6, 7, 10, 17, 31} {
			i, h := placed(c.op, rd, 6, 7, c.imm, c.a, c.b)
			gives(t, "reckoned", h, held(16, 8, told(t, i)), c.next, rd, c.w)
			i, h = placed(c.op, rd, 31, 1, c.imm, c.a, c.b)
			gives(t, "reckoned, other registers", h, held(16, 8, told(t, i)), c.next, rd, c.w)
		}
	}
	for op := api.LUI; op <= api.REMU; op++ {
		if (op <= api.JALR || op >= api.ADDI) && !seen[op] {
			t.Errorf("the instruction %d is missing in the test", op)
		}
	}
}

// TestSameRegister: D2: Rs1, Rs2 and Rd the same one, and each of them register 0.
func TestSameRegister(t *testing.T) {
	const a = 0x80000021
	for op, w := range map[int]uint32{
		api.ADD: 0x42, api.SUB: 0, api.SLL: 0x42, api.SLT: 0, api.SLTU: 0, api.XOR: 0, api.SRL: 0x40000010, api.SRA: 0xc0000010, api.OR: a, api.AND: a,
		api.MUL: 0x441, api.MULH: 0x3fffffdf, api.MULHSU: 0xc0000000, api.MULHU: 0x40000021,
		api.DIV: 1, api.DIVU: 1, api.REM: 0, api.REMU: 0,
	} {
		i, h := placed(op, 9, 9, 9, 0, a, a)
		gives(t, "one register", h, held(16, 8, told(t, i)), 12, 9, w)
	}
	for op, w := range map[int]uint32{api.ADD: 0, api.DIV: 0xffffffff, api.REMU: 0, api.SLTU: 0} {
		gives(t, "register 0", before(8), held(16, 8, told(t, api.Ins{Op: op, Rd: 3})), 12, 3, w)
		gives(t, "register 0 alone", before(8), held(16, 8, told(t, api.Ins{Op: op})), 12, 0, 0)
	}
	gives(t, "ADDI of register 0 into it", before(8), held(16, 8, told(t, api.Ins{Op: api.ADDI, Imm: 5})), 12, 0, 0)
}

// TestBranches: D2, D3: such as hold and such as don't, onward, back, beyond the ends, and onto themselves.
func TestBranches(t *testing.T) {
	const low = 1 << 31
	for _, c := range []struct {
		op    int
		a, b  uint32
		holds bool
	}{
		{api.BEQ, 5, 5, true}, {api.BEQ, 5, 6, false}, {api.BEQ, low, 0, false},
		{api.BNE, 5, 6, true}, {api.BNE, 5, 5, false}, {api.BNE, low, 0, true},
		{api.BLT, low, 0, true}, {api.BLT, 0, low, false}, {api.BLT, 5, 5, false},
		{api.BGE, 0, low, true}, {api.BGE, low, 0, false}, {api.BGE, 5, 5, true},
		{api.BLTU, 0, low, true}, {api.BLTU, low, 0, false}, {api.BLTU, 5, 5, false},
		{api.BGEU, low, 0, true}, {api.BGEU, 0, low, false}, {api.BGEU, 5, 5, true},
	} {
		for imm, far := range map[int32]uint32{0: 8, 2: 10, 4: 12, 8: 16, 4094: 4102, -4: 4, -8: 0, -10: 0xfffffffe, -4096: 0xfffff008} {
			next := uint32(12)
			if c.holds {
				next = far
			}
			i, h := placed(c.op, 0, 6, 7, imm, c.a, c.b)
			gives(t, "a branch", h, held(16, 8, told(t, i)), next, 0, 0)
			if c.a == c.b {
				i, h = placed(c.op, 0, 9, 9, imm, c.a, c.b)
				gives(t, "a branch, one register", h, held(16, 8, told(t, i)), next, 0, 0)
			}
		}
	}
}

var loads = map[int]uint32{api.LB: 1, api.LBU: 1, api.LH: 2, api.LHU: 2, api.LW: 4}
var stores = map[int]uint32{api.SB: 1, api.SH: 2, api.SW: 4}

// TestLoads: D2, D3: what is loaded at each of some places.
func TestLoads(t *testing.T) {
	for _, c := range []struct {
		op  int
		a   uint32
		imm int32
		w   uint32
	}{
		{api.LB, 0, 0, 0xffffff81}, {api.LB, 3, -2, 0x22}, {api.LBU, 2, -2, 0x81}, {api.LBU, 0, 1, 0x22},
		{api.LH, 1, 1, 0xffff9443}, {api.LH, 4, -4, 0x2281}, {api.LHU, 0xfffffffe, 4, 0x9443}, {api.LHU, 0, 0, 0x2281},
		{api.LW, 2047, -2047, 0x94432281}, {api.LW, 0xfffff801, 2047, 0x94432281},
	} {
		for _, rd := range []int{0, 5, 6, 31} {
			i, h := placed(c.op, rd, 6, 0, c.imm, c.a, 0)
			m := held(16, 8, told(t, i))
			copy(m, []byte{0x81, 0x22, 0x43, 0x94})
			gives(t, "a load", h, m, 12, rd, c.w)
		}
	}
}

// TestLoadPlaces: D2: the first and the last place where each load can be, and where it can't: with Rd 0, too.
func TestLoadPlaces(t *testing.T) {
	const size = 32
	for op, many := range loads {
		for _, rd := range []int{0, 5, 6} {
			for _, at := range []uint32{0, size - many} {
				i, h := placed(op, rd, 6, 0, -3, at+3, 0)
				m := held(size, 8, told(t, i))
				if _, x, _, ok := Step(h, m); !ok || x.State != api.Runs || x.PC != 12 {
					t.Errorf("load %d at %d: %+v %v", op, at, x, ok)
				}
			}
			for _, at := range []uint32{size, size + 4, 1<<31 - 4, 1 << 31, -many, math.MaxUint32} {
				i, h := placed(op, rd, 6, 0, -3, at+3, 0)
				traps(t, "a load beyond", h, held(size, 8, told(t, i)), api.CauseLoad)
			}
			for odd := uint32(1); odd < many; odd++ {
				i, h := placed(op, rd, 6, 0, 4, odd, 0)
				traps(t, "a load at no multiple", h, held(size, 8, told(t, i)), api.CauseLoad)
			}
		}
	}
}

// TestStores: D2, D3: at the first and the last place, with more than b's lowest bytes set, and where a and b are one register.
func TestStores(t *testing.T) {
	const size = 32
	data := map[int]uint32{api.SB: 0xc4, api.SH: 0xb3c4, api.SW: 0xf1a2b3c4}
	for op, many := range stores {
		for _, at := range []uint32{0, 16, size - many} {
			i, h := placed(op, 0, 6, 7, -3, at+3, 0xf1a2b3c4)
			m := held(size, 8, told(t, i))
			left := bytes.Clone(m)
			copy(left[at:], []byte{0xc4, 0xb3, 0xa2, 0xf1}[:many])
			after := h
			after.PC = 12
			does(t, "a store", h, m, api.Commit{PC: 8, Next: 12, At: at, Many: int(many), Data: data[op]}, after, left)
		}
		i, h := placed(op, 0, 9, 9, 0, 20, 20)
		m := held(size, 8, told(t, i))
		left := bytes.Clone(m)
		copy(left[20:], []byte{20, 0, 0, 0}[:many])
		after := h
		after.PC = 12
		does(t, "a store of its own place", h, m, api.Commit{PC: 8, Next: 12, At: 20, Many: int(many), Data: 20}, after, left)

		i = api.Ins{Op: op, Imm: 4}
		m = held(size, 8, told(t, i))
		left = bytes.Clone(m)
		copy(left[4:], []byte{0, 0, 0, 0}[:many])
		after = before(12)
		does(t, "a store of register 0", before(8), m, api.Commit{PC: 8, Next: 12, At: 4, Many: int(many)}, after, left)
	}
}

// TestStorePlaces: D2: where no store can be.
func TestStorePlaces(t *testing.T) {
	const size = 32
	for op, many := range stores {
		for _, at := range []uint32{size, size + 4, 1<<31 - 4, 1 << 31, -many, math.MaxUint32} {
			i, h := placed(op, 0, 6, 7, -3, at+3, 0xf1a2b3c4)
			traps(t, "a store beyond", h, held(size, 8, told(t, i)), api.CauseStore)
		}
		for odd := uint32(1); odd < many; odd++ {
			i, h := placed(op, 0, 6, 7, 4, odd, 0xf1a2b3c4)
			traps(t, "a store at no multiple", h, held(size, 8, told(t, i)), api.CauseStore)
		}
	}
}

// TestStoreOntoItself: D2: a store of the word that it stands in is fetched as it was, and read anew the next time.
func TestStoreOntoItself(t *testing.T) {
	i, h := placed(api.SW, 0, 6, 7, 0, 8, 115)
	_, x, m, _ := Step(h, held(16, 8, told(t, i)))
	if x.PC != 12 || binary.LittleEndian.Uint32(m[8:]) != 115 {
		t.Errorf("%+v %v", x, m)
	}
	x.PC = 8
	if _, x, _, _ = Step(x, m); x.State != api.Halted {
		t.Errorf("%+v", x)
	}
}

// TestCalls: D2, D3: ECALL, EBREAK, FENCE.
func TestCalls(t *testing.T) {
	m := held(16, 8, 115)
	h := before(8)
	after := h
	after.State = api.Halted
	does(t, "ECALL 0, the document's example", h, m, api.Commit{PC: 8, Next: 8, State: api.Halted}, after, m)
	for _, w := range []uint32{0, 7, math.MaxUint32} {
		h = before(8)
		h.Regs[17], h.Regs[10] = 1, w
		after = h
		after.PC = 12
		does(t, "ECALL 1", h, m, api.Commit{PC: 8, Next: 12, Out: true, Told: w}, after, m)
	}
	for _, call := range []uint32{2, 3, 10, 93, 256, 257, 1 << 31, 1<<31 + 1, math.MaxUint32} {
		h = before(8)
		h.Regs[17] = call
		traps(t, "another ECALL", h, m, api.CauseCall)
	}
	for _, call := range []uint32{0, 1, 2} {
		h = before(8)
		h.Regs[17] = call
		traps(t, "EBREAK", h, held(16, 8, 1048691), api.CauseBreak)
	}
	for _, i := range []api.Ins{{Op: api.FENCE}, {Op: api.FENCE, Imm: 255}, {Op: api.FENCE, Rd: 5, Rs1: 6, Imm: -1}, {Op: api.FENCE, Rd: 31, Rs1: 31, Imm: 2047}} {
		gives(t, "FENCE", before(8), held(16, 8, told(t, i)), 12, 0, 0)
	}
}

// kinds has an instruction of each kind that goes on or traps.
func kinds(t *testing.T) []uint32 {
	words := []uint32{0, 115, 1048691}
	for _, i := range []api.Ins{
		{Op: api.ADDI, Rd: 1, Imm: 1}, {Op: api.ADDI, Imm: 1}, {Op: api.JAL, Rd: 1, Imm: 4}, {Op: api.BEQ, Imm: 4},
		{Op: api.LW, Rd: 1}, {Op: api.LW, Rd: 1, Imm: 1}, {Op: api.SB, Rs2: 1}, {Op: api.SW, Rs2: 1}, {Op: api.SW, Imm: 2}, {Op: api.FENCE},
	} {
		words = append(words, told(t, i))
	}
	return words
}

// TestNewMemory: D3, P3: what comes out is new memory, also where nothing is stored or the hart traps; what lies behind the length is neither read nor written.
func TestNewMemory(t *testing.T) {
	for _, w := range kinds(t) {
		all := held(64, 8, w)
		was := slices.Clone(all)
		_, _, l, ok := Step(before(8), all[:16])
		if !ok || len(l) != 16 {
			t.Fatalf("%#x: %d bytes, %v", w, len(l), ok)
		}
		left := slices.Clone(l)
		l = append(l, 1, 2, 3, 4)
		for n := range l {
			l[n]++
		}
		if !bytes.Equal(all, was) {
			t.Errorf("%#x: what comes out shares with what was handed in", w)
		}
		_, _, l, _ = Step(before(8), all[:16])
		for n := range all {
			all[n]++
		}
		if !bytes.Equal(l, left) {
			t.Errorf("%#x: what was handed in was kept", w)
		}
	}
	i, h := placed(api.LW, 5, 6, 0, 0, 16, 0)
	traps(t, "a load behind the length", h, held(64, 8, told(t, i))[:16], api.CauseLoad)
	i, h = placed(api.SW, 0, 6, 7, 0, 16, 0)
	traps(t, "a store behind the length", h, held(64, 8, told(t, i))[:16], api.CauseStore)
}

// TestSameAnswer: P3: what is answered hangs on the arguments alone.
func TestSameAnswer(t *testing.T) {
	for _, w := range kinds(t) {
		m := held(16, 8, w)
		c, x, l, _ := Step(before(8), m)
		for range 3 {
			d, y, k, _ := Step(before(8), m)
			if c != d || x != y || !bytes.Equal(l, k) {
				t.Errorf("%#x: another answer: %+v %+v", w, c, d)
			}
		}
	}
}

// TestDo: D2, D3: by its parts Step's commit comes out, too: with the words of what an instruction reads alone, and with what was loaded elsewhere.
func TestDo(t *testing.T) {
	for op := api.LUI; op <= api.EBREAK; op++ {
		for _, called := range []uint32{0, 1, 2} {
			rd := 5
			if op >= api.BEQ && op <= api.BGEU || op >= api.SB && op <= api.SW || op >= api.ECALL {
				rd = 0
			}
			i, h := placed(op, rd, 6, 7, 0, 8, 12)
			h.Regs[17] = called
			m := held(16, 8, told(t, i))
			want, behind, _, _ := Step(h, m)
			first, second := Reads(i)
			if c := Do(i, h.PC, h.Regs[first], h.Regs[second], m); c != want {
				t.Errorf("%+v: the commit is\n%+v, not\n%+v", i, c, want)
			}
			if x := Behind(h, want); x != behind {
				t.Errorf("%+v: the hart is\n%+v, not\n%+v", i, x, behind)
			}
		}
	}
	load := api.Ins{Op: api.LH, Rd: 3, Rs1: 1}
	if c := Loaded(load, 8, 77, true); c != (api.Commit{PC: 8, Next: 12, Rd: 3, Value: 77}) {
		t.Errorf("loaded: %+v", c)
	}
	if c := Loaded(load, 8, 77, false); c != Trap(8, api.CauseLoad) {
		t.Errorf("not loaded: %+v", c)
	}
}

// TestReads: D2: ECALL goes by registers that its word does not name.
func TestReads(t *testing.T) {
	for op := api.LUI; op <= api.EBREAK; op++ {
		want := [2]int{3, 4}
		if op == api.ECALL {
			want = [2]int{17, 10}
		}
		if first, second := Reads(api.Ins{Op: op, Rd: 2, Rs1: 3, Rs2: 4}); [2]int{first, second} != want {
			t.Errorf("%d: %d and %d", op, first, second)
		}
	}
}

// TestParts: P1: the parts of Step end, and none panics, also of what Step never hands them.
func TestParts(t *testing.T) {
	for _, op := range []int{math.MinInt, -1, 0, api.EBREAK + 1, 255, math.MaxInt} {
		if c := Do(api.Ins{Op: op, Rd: 1, Rs1: 2, Rs2: 3}, 8, 1, 2, nil); c != Trap(8, api.CauseWord) {
			t.Errorf("op %d: %+v", op, c)
		}
	}
	for _, rd := range []int{math.MinInt, -1, 0, 32, math.MaxInt} {
		if x := Behind(before(8), api.Commit{PC: 8, Next: 12, Rd: rd, Value: 5}); x != before(12) {
			t.Errorf("register %d: %+v", rd, x)
		}
	}
}

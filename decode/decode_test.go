package decode

import (
	"math"
	"testing"

	"humpyard/api"
)

// all has each instruction once, as an assembler tells it, each field with something in it.
var all = []struct {
	w uint32
	i api.Ins
}{
	{0x123450b7, api.Ins{Op: api.LUI, Rd: 1, Imm: 0x12345000}},
	{0x12345097, api.Ins{Op: api.AUIPC, Rd: 1, Imm: 0x12345000}},
	{0x008000ef, api.Ins{Op: api.JAL, Rd: 1, Imm: 8}},
	{0x00c10067, api.Ins{Op: api.JALR, Rs1: 2, Imm: 12}},
	{0x00208463, api.Ins{Op: api.BEQ, Rs1: 1, Rs2: 2, Imm: 8}},
	{0x00209463, api.Ins{Op: api.BNE, Rs1: 1, Rs2: 2, Imm: 8}},
	{0x0020c463, api.Ins{Op: api.BLT, Rs1: 1, Rs2: 2, Imm: 8}},
	{0x0020d463, api.Ins{Op: api.BGE, Rs1: 1, Rs2: 2, Imm: 8}},
	{0x0020e463, api.Ins{Op: api.BLTU, Rs1: 1, Rs2: 2, Imm: 8}},
	{0x0020f463, api.Ins{Op: api.BGEU, Rs1: 1, Rs2: 2, Imm: 8}},
	{0x00410183, api.Ins{Op: api.LB, Rd: 3, Rs1: 2, Imm: 4}},
	{0x00411183, api.Ins{Op: api.LH, Rd: 3, Rs1: 2, Imm: 4}},
	{0x00412183, api.Ins{Op: api.LW, Rd: 3, Rs1: 2, Imm: 4}},
	{0x00414183, api.Ins{Op: api.LBU, Rd: 3, Rs1: 2, Imm: 4}},
	{0x00415183, api.Ins{Op: api.LHU, Rd: 3, Rs1: 2, Imm: 4}},
	{0x00310223, api.Ins{Op: api.SB, Rs1: 2, Rs2: 3, Imm: 4}},
	{0x00311223, api.Ins{Op: api.SH, Rs1: 2, Rs2: 3, Imm: 4}},
	{0x00312223, api.Ins{Op: api.SW, Rs1: 2, Rs2: 3, Imm: 4}},
	{0x00510193, api.Ins{Op: api.ADDI, Rd: 3, Rs1: 2, Imm: 5}},
	{0x00512193, api.Ins{Op: api.SLTI, Rd: 3, Rs1: 2, Imm: 5}},
	{0x00513193, api.Ins{Op: api.SLTIU, Rd: 3, Rs1: 2, Imm: 5}},
	{0x00514193, api.Ins{Op: api.XORI, Rd: 3, Rs1: 2, Imm: 5}},
	{0x00516193, api.Ins{Op: api.ORI, Rd: 3, Rs1: 2, Imm: 5}},
	{0x00517193, api.Ins{Op: api.ANDI, Rd: 3, Rs1: 2, Imm: 5}},
	{0x00511193, api.Ins{Op: api.SLLI, Rd: 3, Rs1: 2, Imm: 5}},
	{0x00515193, api.Ins{Op: api.SRLI, Rd: 3, Rs1: 2, Imm: 5}},
	{0x40515193, api.Ins{Op: api.SRAI, Rd: 3, Rs1: 2, Imm: 5}},
	{0x002081b3, api.Ins{Op: api.ADD, Rd: 3, Rs1: 1, Rs2: 2}},
	{0x402081b3, api.Ins{Op: api.SUB, Rd: 3, Rs1: 1, Rs2: 2}},
	{0x002091b3, api.Ins{Op: api.SLL, Rd: 3, Rs1: 1, Rs2: 2}},
	{0x0020a1b3, api.Ins{Op: api.SLT, Rd: 3, Rs1: 1, Rs2: 2}},
	{0x0020b1b3, api.Ins{Op: api.SLTU, Rd: 3, Rs1: 1, Rs2: 2}},
	{0x0020c1b3, api.Ins{Op: api.XOR, Rd: 3, Rs1: 1, Rs2: 2}},
	{0x0020d1b3, api.Ins{Op: api.SRL, Rd: 3, Rs1: 1, Rs2: 2}},
	{0x4020d1b3, api.Ins{Op: api.SRA, Rd: 3, Rs1: 1, Rs2: 2}},
	{0x0020e1b3, api.Ins{Op: api.OR, Rd: 3, Rs1: 1, Rs2: 2}},
	{0x0020f1b3, api.Ins{Op: api.AND, Rd: 3, Rs1: 1, Rs2: 2}},
	{0x022081b3, api.Ins{Op: api.MUL, Rd: 3, Rs1: 1, Rs2: 2}},
	{0x022091b3, api.Ins{Op: api.MULH, Rd: 3, Rs1: 1, Rs2: 2}},
	{0x0220a1b3, api.Ins{Op: api.MULHSU, Rd: 3, Rs1: 1, Rs2: 2}},
	{0x0220b1b3, api.Ins{Op: api.MULHU, Rd: 3, Rs1: 1, Rs2: 2}},
	{0x0220c1b3, api.Ins{Op: api.DIV, Rd: 3, Rs1: 1, Rs2: 2}},
	{0x0220d1b3, api.Ins{Op: api.DIVU, Rd: 3, Rs1: 1, Rs2: 2}},
	{0x0220e1b3, api.Ins{Op: api.REM, Rd: 3, Rs1: 1, Rs2: 2}},
	{0x0220f1b3, api.Ins{Op: api.REMU, Rd: 3, Rs1: 1, Rs2: 2}},
	{0x0ff0000f, api.Ins{Op: api.FENCE, Imm: 255}},
	{0x00000073, api.Ins{Op: api.ECALL}},
	{0x00100073, api.Ins{Op: api.EBREAK}},
}

// edges has each form with its registers at 0 and 31 and its Imm at its ends, and with one bit of the Imm after the other where these lie apart.
var edges = []struct {
	w uint32
	i api.Ins
}{
	{0x00000037, api.Ins{Op: api.LUI}},
	{0x00000fb7, api.Ins{Op: api.LUI, Rd: 31}},
	{0x00001037, api.Ins{Op: api.LUI, Imm: 4096}},
	{0x7ffff037, api.Ins{Op: api.LUI, Imm: 0x7ffff000}},
	{0x80000037, api.Ins{Op: api.LUI, Imm: math.MinInt32}},
	{0xffffffb7, api.Ins{Op: api.LUI, Rd: 31, Imm: -4096}},
	{0xffffff97, api.Ins{Op: api.AUIPC, Rd: 31, Imm: -4096}},

	{0x0000006f, api.Ins{Op: api.JAL}},
	{0x00000fef, api.Ins{Op: api.JAL, Rd: 31}},
	{0x0020006f, api.Ins{Op: api.JAL, Imm: 2}},
	{0x4000006f, api.Ins{Op: api.JAL, Imm: 1024}},
	{0x0010006f, api.Ins{Op: api.JAL, Imm: 2048}},
	{0x0000106f, api.Ins{Op: api.JAL, Imm: 4096}},
	{0x0008006f, api.Ins{Op: api.JAL, Imm: 1 << 19}},
	{0x7fffffef, api.Ins{Op: api.JAL, Rd: 31, Imm: 1<<20 - 2}},
	{0x8000006f, api.Ins{Op: api.JAL, Imm: -1 << 20}},
	{0xffffffef, api.Ins{Op: api.JAL, Rd: 31, Imm: -2}},

	{0x00000067, api.Ins{Op: api.JALR}},
	{0x7fff8fe7, api.Ins{Op: api.JALR, Rd: 31, Rs1: 31, Imm: 2047}},
	{0x80000067, api.Ins{Op: api.JALR, Imm: -2048}},
	{0xffff8fe7, api.Ins{Op: api.JALR, Rd: 31, Rs1: 31, Imm: -1}},
	{0x00000003, api.Ins{Op: api.LB}},
	{0x80000f83, api.Ins{Op: api.LB, Rd: 31, Imm: -2048}},
	{0x000f8013, api.Ins{Op: api.ADDI, Rs1: 31}},
	{0xffffff93, api.Ins{Op: api.ANDI, Rd: 31, Rs1: 31, Imm: -1}},
	{0x0000000f, api.Ins{Op: api.FENCE}},
	{0x7fff8f8f, api.Ins{Op: api.FENCE, Rd: 31, Rs1: 31, Imm: 2047}},
	{0x8000000f, api.Ins{Op: api.FENCE, Imm: -2048}},

	{0x00001013, api.Ins{Op: api.SLLI}},
	{0x01ff9f93, api.Ins{Op: api.SLLI, Rd: 31, Rs1: 31, Imm: 31}},
	{0x00005013, api.Ins{Op: api.SRLI}},
	{0x01005013, api.Ins{Op: api.SRLI, Imm: 16}},
	{0x01ffdf93, api.Ins{Op: api.SRLI, Rd: 31, Rs1: 31, Imm: 31}},
	{0x40005013, api.Ins{Op: api.SRAI}},
	{0x41ffdf93, api.Ins{Op: api.SRAI, Rd: 31, Rs1: 31, Imm: 31}},

	{0x00000063, api.Ins{Op: api.BEQ}},
	{0x000f8063, api.Ins{Op: api.BEQ, Rs1: 31}},
	{0x01f00063, api.Ins{Op: api.BEQ, Rs2: 31}},
	{0x00000163, api.Ins{Op: api.BEQ, Imm: 2}},
	{0x00000863, api.Ins{Op: api.BEQ, Imm: 16}},
	{0x02000063, api.Ins{Op: api.BEQ, Imm: 32}},
	{0x40000063, api.Ins{Op: api.BEQ, Imm: 1024}},
	{0x000000e3, api.Ins{Op: api.BEQ, Imm: 2048}},
	{0x7fffffe3, api.Ins{Op: api.BGEU, Rs1: 31, Rs2: 31, Imm: 4094}},
	{0x80000063, api.Ins{Op: api.BEQ, Imm: -4096}},
	{0xffffffe3, api.Ins{Op: api.BGEU, Rs1: 31, Rs2: 31, Imm: -2}},

	{0x00000023, api.Ins{Op: api.SB}},
	{0x000f8023, api.Ins{Op: api.SB, Rs1: 31}},
	{0x01f00023, api.Ins{Op: api.SB, Rs2: 31}},
	{0x000000a3, api.Ins{Op: api.SB, Imm: 1}},
	{0x00000823, api.Ins{Op: api.SB, Imm: 16}},
	{0x02000023, api.Ins{Op: api.SB, Imm: 32}},
	{0x7fffafa3, api.Ins{Op: api.SW, Rs1: 31, Rs2: 31, Imm: 2047}},
	{0x80000023, api.Ins{Op: api.SB, Imm: -2048}},
	{0xffff9fa3, api.Ins{Op: api.SH, Rs1: 31, Rs2: 31, Imm: -1}},

	{0x00000033, api.Ins{Op: api.ADD}},
	{0x00000fb3, api.Ins{Op: api.ADD, Rd: 31}},
	{0x000f8033, api.Ins{Op: api.ADD, Rs1: 31}},
	{0x01f00033, api.Ins{Op: api.ADD, Rs2: 31}},
	{0x41ff8fb3, api.Ins{Op: api.SUB, Rd: 31, Rs1: 31, Rs2: 31}},
	{0x03ffffb3, api.Ins{Op: api.REMU, Rd: 31, Rs1: 31, Rs2: 31}},
}

// bothWays holds Decode and Encode against a word and its instruction.
func bothWays(t *testing.T, w uint32, i api.Ins) {
	t.Helper()
	if j, ok := Decode(w); !ok || j != i {
		t.Errorf("Decode %#08x: %v %v, not %v", w, j, ok, i)
	}
	if v, e := Encode(i); e != api.OK || v != w {
		t.Errorf("Encode %v: %#08x %d, not %#08x", i, v, e, w)
	}
}

// TestEdges: B1.
func TestEdges(t *testing.T) {
	for _, c := range edges {
		bothWays(t, c.w, c.i)
	}
}

// TestAll: B2.
func TestAll(t *testing.T) {
	for n, c := range all {
		if c.i.Op != n+1 {
			t.Errorf("the instruction %d is missing in the test", n+1)
		}
		bothWays(t, c.w, c.i)
	}
	if len(all) != api.EBREAK {
		t.Error("an instruction is missing in the test")
	}
}

// opOf answers the op that the chapter's table has of what a word is told by, or 0: spelt out once more, so that the program isn't held against itself.
func opOf(w uint32) int {
	middle, high := w>>12&7, w>>25
	switch w & 127 {
	case 55:
		return api.LUI
	case 23:
		return api.AUIPC
	case 111:
		return api.JAL
	case 103:
		return [8]int{api.JALR}[middle]
	case 99:
		return [8]int{api.BEQ, api.BNE, 0, 0, api.BLT, api.BGE, api.BLTU, api.BGEU}[middle]
	case 3:
		return [8]int{api.LB, api.LH, api.LW, 0, api.LBU, api.LHU, 0, 0}[middle]
	case 35:
		return [8]int{api.SB, api.SH, api.SW}[middle]
	case 19:
		switch {
		case middle == 1 && high == 0:
			return api.SLLI
		case middle == 5 && high == 0:
			return api.SRLI
		case middle == 5 && high == 32:
			return api.SRAI
		}
		return [8]int{api.ADDI, 0, api.SLTI, api.SLTIU, api.XORI, 0, api.ORI, api.ANDI}[middle]
	case 51:
		switch high {
		case 0:
			return [8]int{api.ADD, api.SLL, api.SLT, api.SLTU, api.XOR, api.SRL, api.OR, api.AND}[middle]
		case 32:
			return [8]int{0: api.SUB, 5: api.SRA}[middle]
		case 1:
			return [8]int{api.MUL, api.MULH, api.MULHSU, api.MULHU, api.DIV, api.DIVU, api.REM, api.REMU}[middle]
		}
		return 0
	case 15:
		return [8]int{api.FENCE}[middle]
	}
	switch w {
	case 115:
		return api.ECALL
	case 1048691:
		return api.EBREAK
	}
	return 0
}

// TestWhatIsTold: B2 and B3, at each of the numbers that may stand in 0..6, in 12..14 and in 25..31.
func TestWhatIsTold(t *testing.T) {
	rest := []uint32{0, 0x00100000, 0x01ff8f80, 0x00aa8a80, 0x01550500, 0x00080080}
	for told := range uint32(1 << 17) {
		for _, r := range rest {
			w := told&127 | told>>7&7<<12 | told>>10<<25 | r
			i, ok := Decode(w)
			op := opOf(w)
			if ok != (op != 0) || i.Op != op {
				t.Fatalf("Decode %#08x: %v %v, not the op %d", w, i, ok, op)
			}
			if !ok && i != (api.Ins{}) {
				t.Fatalf("Decode %#08x: %v, not empty", w, i)
			}
			if v, e := Encode(i); ok && (e != api.OK || v != w) {
				t.Fatalf("Encode %v: %#08x %d, not %#08x", i, v, e, w)
			}
		}
	}
}

// TestNone: B3, words that are none.
func TestNone(t *testing.T) {
	for _, w := range []uint32{
		0, math.MaxUint32, 1, 2, 127,
		0x0620a1af, 0x00000007, 0x00000027, 0x0000001b, 0x0000003b, 0x00000053, // 0..6
		0x00001067, 0x00007067, 0x00002063, 0x00003063, // 12..14
		0x00003003, 0x00006003, 0x00007003, 0x00003023, 0x00007023, 0x0000100f, 0x0000200f,
		0x02001013, 0x40001013, 0x02005013, 0x42005013, 0xfe005013, 0x80005013, // 25..31
		0x40001033, 0x40002033, 0x40004033, 0x40007033, 0x04000033, 0x42000033, 0x80000033, 0xfe000033,
		0x00200073, 0x10200073, 0x10500073, 0x30200073, 0x00001073, 0xc0002073, // 115
	} {
		if i, ok := Decode(w); ok || i != (api.Ins{}) {
			t.Errorf("Decode %#08x: %v %v", w, i, ok)
		}
	}
}

// TestWholeWord: B1, form E: ECALL and EBREAK with one bit changed are none, but each other, or told by 0..6 as another.
func TestWholeWord(t *testing.T) {
	for _, whole := range []uint32{115, 1048691} {
		for bit := range 32 {
			w := whole ^ 1<<bit
			i, ok := Decode(w)
			if op := opOf(w); ok != (op != 0) || i.Op != op {
				t.Errorf("Decode %#08x: %v %v", w, i, ok)
			}
			if bit >= 7 && bit != 20 && ok {
				t.Errorf("Decode %#08x: %v", w, i)
			}
		}
	}
}

// TestFields: B1 and B3: each instruction with all that its form holds comes back from its word, and has a word of its own.
func TestFields(t *testing.T) {
	seen := map[uint32]api.Ins{}
	for _, c := range all {
		for _, i := range spread(c.i.Op) {
			w, e := Encode(i)
			if e != api.OK {
				t.Errorf("Encode %v: %d", i, e)
				continue
			}
			if j, ok := Decode(w); !ok || j != i {
				t.Errorf("Decode %#08x: %v %v, not %v", w, j, ok, i)
			}
			if j, ok := seen[w]; ok && j != i {
				t.Errorf("%#08x is of %v and of %v", w, i, j)
			}
			seen[w] = i
		}
	}
}

// shape says, by op, which registers an instruction has, and its Imm's least, greatest, and step.
func shape(op int) (rd, rs1, rs2 bool, least, greatest, step int64) {
	switch {
	case op <= api.AUIPC:
		return true, false, false, math.MinInt32, math.MaxInt32 - 4095, 4096
	case op == api.JAL:
		return true, false, false, -1 << 20, 1<<20 - 2, 2
	case op >= api.BEQ && op <= api.BGEU:
		return false, true, true, -4096, 4094, 2
	case op >= api.SB && op <= api.SW:
		return false, true, true, -2048, 2047, 1
	case op >= api.SLLI && op <= api.SRAI:
		return true, true, false, 0, 31, 1
	case op >= api.ADD && op <= api.REMU:
		return true, true, true, 0, 0, 1
	case op >= api.ECALL:
		return false, false, false, 0, 0, 1
	}
	return true, true, false, -2048, 2047, 1
}

// registers answers what a test puts in a register's field: 0 alone, where the form has none.
func registers(there bool) []int {
	if there {
		return []int{0, 1, 2, 4, 8, 16, 31}
	}
	return []int{0}
}

// imms answers what a test puts in the Imm: its ends, and each bit that lies between.
func imms(least, greatest, step int64) []int32 {
	out := []int32{0, int32(least), int32(greatest)}
	for bit := step; bit <= greatest; bit *= 2 {
		out = append(out, int32(bit))
		if least < 0 {
			out = append(out, int32(-bit))
		}
	}
	return out
}

func spread(op int) []api.Ins {
	var out []api.Ins
	rd, rs1, rs2, least, greatest, step := shape(op)
	for _, d := range registers(rd) {
		for _, a := range registers(rs1) {
			for _, b := range registers(rs2) {
				for _, m := range imms(least, greatest, step) {
					out = append(out, api.Ins{Op: op, Rd: d, Rs1: a, Rs2: b, Imm: m})
				}
			}
		}
	}
	return out
}

// refused holds that Encode answers ErrForm, and 0 beside it.
func refused(t *testing.T, i api.Ins) {
	t.Helper()
	if w, e := Encode(i); e != api.ErrForm || w != 0 {
		t.Errorf("Encode %v: %#08x %d", i, w, e)
	}
}

// TestNoOp: B3, ops that are none.
func TestNoOp(t *testing.T) {
	refused(t, api.Ins{})
	for _, op := range []int{-1, 0, 49, 50, 64, 1 << 8, 1<<8 + api.ADDI, 1<<32 + api.ADDI, math.MinInt, math.MaxInt} {
		refused(t, api.Ins{Op: op})
		refused(t, api.Ins{Op: op, Rd: 1, Rs1: 2, Rs2: 3, Imm: 4})
	}
}

// TestRegisterOutside: B3, registers that no form holds, and those that a form has as 0.
func TestRegisterOutside(t *testing.T) {
	outside := []int{-1, -32, 32, 33, 64, 1 << 16, 1 << 32, 1<<32 + 1, math.MinInt, math.MaxInt}
	inside := []int{1, 2, 4, 8, 16, 31}
	for _, c := range all {
		rd, rs1, rs2, _, _, _ := shape(c.i.Op)
		for _, field := range []struct {
			there bool
			put   func(*api.Ins, int)
		}{
			{rd, func(i *api.Ins, r int) { i.Rd = r }},
			{rs1, func(i *api.Ins, r int) { i.Rs1 = r }},
			{rs2, func(i *api.Ins, r int) { i.Rs2 = r }},
		} {
			bad := outside
			if !field.there {
				bad = append(inside, outside...)
			}
			for _, r := range bad {
				i := c.i
				field.put(&i, r)
				refused(t, i)
			}
		}
	}
}

// TestImmOutside: B3, an Imm beyond its form's ends, and one that lies between its steps.
func TestImmOutside(t *testing.T) {
	for _, c := range all {
		_, _, _, least, greatest, step := shape(c.i.Op)
		bad := []int64{least - step, greatest + step, 2*least - step, 2*greatest + step, math.MinInt32, math.MaxInt32}
		for bit := int64(1); bit < step; bit *= 2 {
			bad = append(bad, bit, -bit, least+bit, greatest+bit)
		}
		for _, m := range bad {
			if m < math.MinInt32 || m > math.MaxInt32 || m >= least && m <= greatest && m%step == 0 {
				continue
			}
			i := c.i
			i.Imm = int32(m)
			refused(t, i)
		}
	}
	for _, i := range []api.Ins{
		{Op: api.LUI, Imm: 1}, {Op: api.AUIPC, Imm: 4095}, {Op: api.LUI, Imm: 4097}, {Op: api.LUI, Imm: -1},
		{Op: api.JAL, Imm: 1}, {Op: api.JAL, Imm: -1}, {Op: api.JAL, Imm: 1 << 20}, {Op: api.JAL, Imm: -1<<20 - 2},
		{Op: api.BEQ, Imm: 3}, {Op: api.BNE, Imm: -3}, {Op: api.BLT, Imm: 4096}, {Op: api.BGE, Imm: -4098},
		{Op: api.ADDI, Imm: 2048}, {Op: api.ADDI, Imm: -2049}, {Op: api.FENCE, Imm: 4095}, {Op: api.JALR, Imm: 1 << 12},
		{Op: api.SB, Imm: 2048}, {Op: api.SW, Imm: -2049},
		{Op: api.SLLI, Imm: 32}, {Op: api.SRLI, Imm: -1}, {Op: api.SRAI, Imm: 1024}, {Op: api.SRLI, Imm: 1024},
		{Op: api.ADD, Imm: 1}, {Op: api.REMU, Imm: -1},
		{Op: api.ECALL, Imm: 1}, {Op: api.EBREAK, Imm: 1}, {Op: api.EBREAK, Imm: 1 << 20},
	} {
		refused(t, i)
	}
}

// TestWordsAndBack: B3: an instruction has one word, whatever word it was read of.
func TestWordsAndBack(t *testing.T) {
	w := uint32(1)
	for range 200000 {
		w = w*1664525 + 1013904223
		for _, v := range []uint32{w, w&^127 | 51, w&^127 | 19, w&^127 | 99, w&^127 | 35, w&^127 | 111} {
			i, ok := Decode(v)
			if i.Op != opOf(v) || ok != (i.Op != 0) {
				t.Fatalf("Decode %#08x: %v %v", v, i, ok)
			}
			if back, e := Encode(i); ok && (e != api.OK || back != v) {
				t.Fatalf("Encode %v: %#08x %d, not %#08x", i, back, e, v)
			}
		}
	}
}

package core

import (
	"encoding/binary"
	"testing"

	"humpyard/api"
	"humpyard/decode"
)

// Programs that are thrown stand in so few bytes, with what they load and store among them: so all of it meets.
const thrownSize = 192

// Registers 1 to 5 are reckoned with; 6 to 9 are places; 10 to 15 have instructions, so that what is stored comes to be done.
const (
	reckoned = 1
	places   = 6
	codes    = 10
	others   = 16
)

// thrownOp answers one of all instructions, but more often one of those that meet others.
func thrownOp(roll func(int) int) int {
	switch roll(6) {
	case 0:
		return api.BEQ + roll(6)
	case 1, 2:
		return api.LB + roll(8)
	case 3:
		return api.ANDI
	}
	return api.LUI + roll(api.EBREAK)
}

// thrownIns answers an instruction that is near to others: few registers, short ways.
func thrownIns(roll func(int) int) api.Ins {
	op := thrownOp(roll)
	i := api.Ins{Op: op, Rd: roll(places), Rs1: roll(places), Rs2: roll(places)}
	near := int32(roll(20) - 6)
	switch {
	case op == api.LUI, op == api.AUIPC:
		i.Imm = near << 12
	case op == api.JAL, op >= api.BEQ && op <= api.BGEU:
		i.Imm = near * 4
	case op == api.JALR, op >= api.LB && op <= api.SW:
		i = thrownPlace(i, roll)
	case op >= api.SLLI && op <= api.SRAI:
		i.Imm = int32(roll(32))
	case op == api.ANDI:
		// What comes out is a place.
		i.Imm = 60
	case op >= api.ADDI && op <= api.ORI:
		i.Imm = near
	}
	return i
}

// thrownPlace gives an instruction a place that mostly is one.
func thrownPlace(i api.Ins, roll func(int) int) api.Ins {
	i.Imm = int32(roll(thrownSize/8) * 4)
	if roll(5) > 0 {
		i.Rs1 = []int{0, places, places + 1, places + 2, places + 3}[roll(5)]
	}
	if roll(3) > 0 {
		i.Rs2 = codes + roll(others-codes)
	}
	switch i.Op {
	case api.LB, api.LBU, api.SB:
		i.Imm += int32(roll(4))
	case api.LH, api.LHU, api.SH:
		i.Imm += int32(roll(2) * 2)
	}
	if roll(60) == 0 {
		i.Imm += int32(roll(4))
	}
	return i
}

// shaped answers an instruction without what its form has not.
func shaped(i api.Ins) api.Ins {
	switch {
	case i.Op == api.ECALL || i.Op == api.EBREAK:
		return api.Ins{Op: i.Op}
	case i.Op <= api.JAL:
		i.Rs1, i.Rs2 = 0, 0
	case i.Op == api.JALR, i.Op >= api.LB && i.Op <= api.LHU, i.Op >= api.ADDI && i.Op <= api.SRAI, i.Op == api.FENCE:
		i.Rs2 = 0
	case i.Op <= api.SW:
		i.Rd = 0
	}
	return i
}

// thrown answers a program and a hart that runs it.
func thrown(t *testing.T, roll func(int) int) (api.Hart, []byte) {
	t.Helper()
	var m []byte
	for len(m) < thrownSize {
		w := told(t, shaped(thrownIns(roll)))
		// Few of those that end it, else nothing is far.
		if i, _ := decode.Decode(w); i.Op >= api.ECALL && roll(4) > 0 {
			continue
		}
		m = binary.LittleEndian.AppendUint32(m, w)
	}
	h := api.Hart{PC: uint32(roll(8) * 4)}
	for n := reckoned; n < 32; n++ {
		h.Regs[n] = uint32(roll(thrownSize/8) * 4)
	}
	for n := codes; n < others; n++ {
		h.Regs[n] = told(t, shaped(thrownIns(roll)))
	}
	h.Regs[17] = uint32(roll(3))
	return h, m[:thrownSize-roll(5)]
}

// thrownScript answers choices: some are many and small, some few, some great.
func thrownScript(roll func(int) int) []int {
	greatest := []int{2, 10, 60, 1 << 20}[roll(4)]
	return scripted(roll(400), func(int) int { return roll(greatest) - greatest/8 })
}

// thrownCore answers a core that may be.
func thrownCore(roll func(int) int) api.Config {
	return api.Config{Window: 1 + roll(api.MaxWindow), Phys: 33 + roll(api.MaxPhys-32), Wide: 1 + roll(api.MaxWide)}
}

// TestThrown: J3, J4: programs that nobody has thought of.
func TestThrown(t *testing.T) {
	for part := range 16 {
		t.Run("", func(t *testing.T) {
			t.Parallel()
			roll := dice(uint32(part) + 77)
			for range 80 {
				h, m := thrown(t, roll)
				for range 6 {
					holds(t, "thrown", thrownCore(roll), h, m, thrownScript(roll), roll(400))
				}
			}
		})
	}
}

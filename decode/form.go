package decode

import "humpyard/api"

// The forms of instructions. The number 0 is no form: it is what an op has that is no instruction.
const (
	formNone = iota
	formU
	formJ
	formI
	formH
	formB
	formS
	formR
	formE
)

// Bits of a word by which an instruction is told.
const (
	low    = 1<<7 - 1
	middle = (1<<3 - 1) << 12
	high   = (1<<7 - 1) << 25
	whole  = 1<<32 - 1
)

// A register's five bits, and where they begin in a word.
const (
	five  = 1<<5 - 1
	rdAt  = 7
	rs1At = 15
	rs2At = 20
)

// piece is a part of the Imm: so many bits of the word, from bit at on, stand in the Imm from bit as on.
type piece struct{ at, many, as uint32 }

// form says what stands where in a word. A register that the form has not has 0 in place of five, so that it is read and written as 0.
type form struct {
	told         uint32
	rd, rs1, rs2 uint32
	over         uint32 // bits of the Imm that its sign fills, from bit 31 down
	imm          [4]piece
}

var forms = [...]form{
	formU: {told: low, rd: five, imm: [4]piece{{12, 20, 12}}},
	formJ: {told: low, rd: five, over: 32 - 21, imm: [4]piece{{31, 1, 20}, {12, 8, 12}, {20, 1, 11}, {21, 10, 1}}},
	formI: {told: low | middle, rd: five, rs1: five, over: 32 - 12, imm: [4]piece{{20, 12, 0}}},
	formH: {told: low | middle | high, rd: five, rs1: five, imm: [4]piece{{20, 5, 0}}},
	formB: {told: low | middle, rs1: five, rs2: five, over: 32 - 13, imm: [4]piece{{31, 1, 12}, {7, 1, 11}, {25, 6, 5}, {8, 4, 1}}},
	formS: {told: low | middle, rs1: five, rs2: five, over: 32 - 12, imm: [4]piece{{25, 7, 5}, {7, 5, 0}}},
	formR: {told: low | middle | high, rd: five, rs1: five, rs2: five},
	formE: {told: whole},
}

// read answers the instruction of a word that is known to be of this form.
func (f form) read(op int, w uint32) api.Ins {
	return api.Ins{
		Op:  op,
		Rd:  int(w >> rdAt & f.rd),
		Rs1: int(w >> rs1At & f.rs1),
		Rs2: int(w >> rs2At & f.rs2),
		Imm: f.readImm(w),
	}
}

func (f form) readImm(w uint32) int32 {
	var bits uint32
	for _, p := range f.imm {
		bits |= w >> p.at & p.mask() << p.as
	}
	return int32(bits<<f.over) >> f.over
}

// write answers the instruction's fields where the form has them; what goes beyond a field is left out.
func (f form) write(i api.Ins) uint32 {
	w := uint32(i.Rd) & f.rd << rdAt
	w |= uint32(i.Rs1) & f.rs1 << rs1At
	w |= uint32(i.Rs2) & f.rs2 << rs2At
	for _, p := range f.imm {
		w |= uint32(i.Imm) >> p.as & p.mask() << p.at
	}
	return w
}

// mask answers as many ones as the piece has bits.
func (p piece) mask() uint32 { return 1<<p.many - 1 }

package decode

import "humpyard/api"

// kind is how an instruction is told: its form, and the bits that its words have where the form looks for them.
type kind struct {
	form int
	bits uint32
}

// toldBy makes a kind of the numbers that the chapter tells it by: that of 0..6 (or the whole word), then that of 12..14, then that of 25..31, as many as the form asks for.
func toldBy(form int, told ...uint32) kind {
	begins := [...]uint32{0, 12, 25}
	k := kind{form: form}
	for n, part := range told {
		k.bits |= part << begins[n]
	}
	return k
}

// kinds answers how each instruction is told, by its op.
func kinds() [api.EBREAK + 1]kind {
	return [...]kind{
		api.LUI:    toldBy(formU, 55),
		api.AUIPC:  toldBy(formU, 23),
		api.JAL:    toldBy(formJ, 111),
		api.JALR:   toldBy(formI, 103, 0),
		api.BEQ:    toldBy(formB, 99, 0),
		api.BNE:    toldBy(formB, 99, 1),
		api.BLT:    toldBy(formB, 99, 4),
		api.BGE:    toldBy(formB, 99, 5),
		api.BLTU:   toldBy(formB, 99, 6),
		api.BGEU:   toldBy(formB, 99, 7),
		api.LB:     toldBy(formI, 3, 0),
		api.LH:     toldBy(formI, 3, 1),
		api.LW:     toldBy(formI, 3, 2),
		api.LBU:    toldBy(formI, 3, 4),
		api.LHU:    toldBy(formI, 3, 5),
		api.SB:     toldBy(formS, 35, 0),
		api.SH:     toldBy(formS, 35, 1),
		api.SW:     toldBy(formS, 35, 2),
		api.ADDI:   toldBy(formI, 19, 0),
		api.SLTI:   toldBy(formI, 19, 2),
		api.SLTIU:  toldBy(formI, 19, 3),
		api.XORI:   toldBy(formI, 19, 4),
		api.ORI:    toldBy(formI, 19, 6),
		api.ANDI:   toldBy(formI, 19, 7),
		api.SLLI:   toldBy(formH, 19, 1, 0),
		api.SRLI:   toldBy(formH, 19, 5, 0),
		api.SRAI:   toldBy(formH, 19, 5, 32),
		api.ADD:    toldBy(formR, 51, 0, 0),
		api.SUB:    toldBy(formR, 51, 0, 32),
		api.SLL:    toldBy(formR, 51, 1, 0),
		api.SLT:    toldBy(formR, 51, 2, 0),
		api.SLTU:   toldBy(formR, 51, 3, 0),
		api.XOR:    toldBy(formR, 51, 4, 0),
		api.SRL:    toldBy(formR, 51, 5, 0),
		api.SRA:    toldBy(formR, 51, 5, 32),
		api.OR:     toldBy(formR, 51, 6, 0),
		api.AND:    toldBy(formR, 51, 7, 0),
		api.MUL:    toldBy(formR, 51, 0, 1),
		api.MULH:   toldBy(formR, 51, 1, 1),
		api.MULHSU: toldBy(formR, 51, 2, 1),
		api.MULHU:  toldBy(formR, 51, 3, 1),
		api.DIV:    toldBy(formR, 51, 4, 1),
		api.DIVU:   toldBy(formR, 51, 5, 1),
		api.REM:    toldBy(formR, 51, 6, 1),
		api.REMU:   toldBy(formR, 51, 7, 1),
		api.FENCE:  toldBy(formI, 15, 0),
		api.ECALL:  toldBy(formE, 115),
		api.EBREAK: toldBy(formE, 1048691),
	}
}

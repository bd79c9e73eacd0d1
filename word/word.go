// Package word reckons with words of 32 bits: see doc/01-word.md.
package word

import "humpyard/api"

// Alu answers what the instruction op makes of a and b, and 0 of an op that it does not know.
func Alu(op int, a, b uint32) uint32 {
	switch op {
	case api.ADD:
		return a + b
	case api.SUB:
		return a - b
	case api.AND:
		return a & b
	case api.OR:
		return a | b
	case api.XOR:
		return a ^ b
	case api.SLL:
		return a << shift(b)
	case api.SRL:
		return a >> shift(b)
	case api.SRA:
		return uint32(int32(a) >> shift(b))
	case api.SLT:
		return oneIf(lessSigned(a, b))
	case api.SLTU:
		return oneIf(a < b)
	case api.MUL:
		return a * b
	case api.MULH:
		return upper(uint64(signed(a) * signed(b)))
	case api.MULHSU:
		return upper(uint64(signed(a) * int64(b)))
	case api.MULHU:
		return upper(uint64(a) * uint64(b))
	case api.DIV:
		return quotientSigned(a, b)
	case api.DIVU:
		return quotient(a, b)
	case api.REM:
		return restSigned(a, b)
	case api.REMU:
		return rest(a, b)
	}
	return 0
}

// Holds answers whether the branch op is taken with a and b; one that it does not know never is.
func Holds(op int, a, b uint32) bool {
	switch op {
	case api.BEQ:
		return a == b
	case api.BNE:
		return a != b
	case api.BLT:
		return lessSigned(a, b)
	case api.BGE:
		return !lessSigned(a, b)
	case api.BLTU:
		return a < b
	case api.BGEU:
		return a >= b
	}
	return false
}

// signed answers 64 bits, so that a product of two, and 2^31 as the quotient of -2^31 and -1, have room.
func signed(w uint32) int64 {
	return int64(int32(w))
}

func lessSigned(a, b uint32) bool {
	return signed(a) < signed(b)
}

func oneIf(yes bool) uint32 {
	if yes {
		return 1
	}
	return 0
}

// shift drops b's other bits: Go moves by all of b, and by 32 or more nothing would be left.
func shift(b uint32) uint32 {
	return b & 31
}

func upper(product uint64) uint32 {
	return uint32(product >> 32)
}

func quotientSigned(a, b uint32) uint32 {
	if b == 0 {
		return 1<<32 - 1
	}
	return uint32(signed(a) / signed(b))
}

func quotient(a, b uint32) uint32 {
	if b == 0 {
		return 1<<32 - 1
	}
	return a / b
}

func restSigned(a, b uint32) uint32 {
	if b == 0 {
		return a
	}
	return uint32(signed(a) % signed(b))
}

func rest(a, b uint32) uint32 {
	if b == 0 {
		return a
	}
	return a % b
}

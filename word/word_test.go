package word

import (
	"math"
	"math/big"
	"testing"

	"humpyard/api"
)

const (
	top   = 1 << 31   // signed: -2^31
	minus = 1<<32 - 1 // signed: -1
)

// TestSigned: A1.
func TestSigned(t *testing.T) {
	for _, c := range []struct {
		w uint32
		n int64
	}{
		{0, 0},
		{1, 1},
		{top - 1, 1<<31 - 1},
		{top, -1 << 31},
		{top + 1, -1<<31 + 1},
		{minus, -1},
	} {
		if n := signed(c.w); n != c.n {
			t.Errorf("signed %d: %d, not %d", c.w, n, c.n)
		}
	}
}

// TestSignedIsSeen: A1, as the faces show it at the edge between 2^31 - 1 and 2^31.
func TestSignedIsSeen(t *testing.T) {
	if Alu(api.SLT, top, top-1) != 1 || Alu(api.SLT, top-1, top) != 0 {
		t.Error("SLT: 2^31 is not the least word")
	}
	if Alu(api.SLTU, top, top-1) != 0 || Alu(api.SLTU, top-1, top) != 1 {
		t.Error("SLTU: 2^31 is not above 2^31 - 1")
	}
	if !Holds(api.BLT, top, top-1) || Holds(api.BGE, top, top-1) {
		t.Error("BLT, BGE: 2^31 is not the least word")
	}
	if Holds(api.BLTU, top, top-1) || !Holds(api.BGEU, top, top-1) {
		t.Error("BLTU, BGEU: 2^31 is not above 2^31 - 1")
	}
}

// TestAlu: A2, word by word.
func TestAlu(t *testing.T) {
	for _, c := range []struct {
		name string
		op   int
		a, b uint32
		w    uint32
	}{
		{"ADD", api.ADD, 3, 4, 7},
		{"ADD beyond 32 bits", api.ADD, minus, 2, 1},
		{"SUB", api.SUB, 9, 4, 5},
		{"SUB below 0", api.SUB, 0, 1, minus},
		{"AND", api.AND, 12, 10, 8},
		{"OR", api.OR, 12, 10, 14},
		{"XOR", api.XOR, 12, 10, 6},

		{"SLL", api.SLL, 3, 4, 48},
		{"SLL by 31", api.SLL, 3, 31, top},
		{"SLL by 0", api.SLL, 3, 0, 3},
		{"SLL by 32 is by 0", api.SLL, 3, 32, 3},
		{"SLL by 33 is by 1", api.SLL, 3, 33, 6},
		{"SLL by -1 is by 31", api.SLL, 1, minus, top},
		{"SRL", api.SRL, 48, 4, 3},
		{"SRL of the highest bit", api.SRL, top, 31, 1},
		{"SRL by 32 is by 0", api.SRL, top, 32, top},
		{"SRL by 33 is by 1", api.SRL, top, 33, top >> 1},
		{"SRL by -1 is by 31", api.SRL, minus, minus, 1},
		{"SRA", api.SRA, 48, 4, 3},
		{"SRA of the highest bit", api.SRA, top, 1, 3 << 30},
		{"SRA by 31", api.SRA, top, 31, minus},
		{"SRA by 32 is by 0", api.SRA, top, 32, top},
		{"SRA by 33 is by 1", api.SRA, top, 33, 3 << 30},
		{"SRA without the highest bit", api.SRA, top - 1, 30, 1},

		{"SLT", api.SLT, 1, 2, 1},
		{"SLT of equals", api.SLT, 2, 2, 0},
		{"SLT of -1 and 0", api.SLT, minus, 0, 1},
		{"SLT of 0 and -1", api.SLT, 0, minus, 0},
		{"SLTU", api.SLTU, 1, 2, 1},
		{"SLTU of equals", api.SLTU, 2, 2, 0},
		{"SLTU of 2^32 - 1 and 0", api.SLTU, minus, 0, 0},
		{"SLTU of 0 and 2^32 - 1", api.SLTU, 0, minus, 1},

		{"MUL", api.MUL, 6, 7, 42},
		{"MUL beyond 32 bits", api.MUL, 1 << 16, 1 << 16, 0},
		{"MUL of -1 and -1", api.MUL, minus, minus, 1},
		{"MULH: the chapter's example", api.MULH, top, 2, minus},
		{"MULH of -2^31 and -2^31", api.MULH, top, top, 1 << 30},
		{"MULH of -1 and -1", api.MULH, minus, minus, 0},
		{"MULH of 1 and -1", api.MULH, 1, minus, minus},
		{"MULHSU of -1 and 2^32 - 1", api.MULHSU, minus, minus, minus},
		{"MULHSU of 1 and 2^32 - 1", api.MULHSU, 1, minus, 0},
		{"MULHSU of -1 and 1", api.MULHSU, minus, 1, minus},
		{"MULHSU of -2^31 and 2^32 - 1", api.MULHSU, top, minus, top},
		{"MULHU of 2^32 - 1 twice", api.MULHU, minus, minus, minus - 1},
		{"MULHU of 2^31 and 2", api.MULHU, top, 2, 1},

		{"DIV", api.DIV, 7, 2, 3},
		{"DIV of -7 and 2", api.DIV, minus - 6, 2, minus - 2},
		{"DIV of 7 and -2", api.DIV, 7, minus - 1, minus - 2},
		{"DIV of -7 and -2", api.DIV, minus - 6, minus - 1, 3},
		{"DIV by 0", api.DIV, 7, 0, minus},
		{"DIV of 0 by 0", api.DIV, 0, 0, minus},
		{"DIV of -7 by 0", api.DIV, minus - 6, 0, minus},
		{"DIV of -2^31 by 0", api.DIV, top, 0, minus},
		{"DIV of -2^31 and -1", api.DIV, top, minus, top},
		{"DIV of -2^31 and 1", api.DIV, top, 1, top},
		{"DIVU", api.DIVU, 7, 2, 3},
		{"DIVU of 2^32 - 7", api.DIVU, minus - 6, 2, 1<<31 - 4},
		{"DIVU by 0", api.DIVU, 7, 0, minus},
		{"DIVU of 0 by 0", api.DIVU, 0, 0, minus},
		{"DIVU of 2^31 and 2^32 - 1", api.DIVU, top, minus, 0},

		{"REM", api.REM, 7, 2, 1},
		{"REM of -7 and 2", api.REM, minus - 6, 2, minus},
		{"REM of 7 and -2", api.REM, 7, minus - 1, 1},
		{"REM of -7 and -2", api.REM, minus - 6, minus - 1, minus},
		{"REM by 0", api.REM, 7, 0, 7},
		{"REM of 0 by 0", api.REM, 0, 0, 0},
		{"REM of -7 by 0", api.REM, minus - 6, 0, minus - 6},
		{"REM of -2^31 and -1", api.REM, top, minus, 0},
		{"REMU", api.REMU, 7, 2, 1},
		{"REMU of 2^32 - 7", api.REMU, minus - 6, 10, 9},
		{"REMU by 0", api.REMU, 7, 0, 7},
		{"REMU of 2^32 - 7 by 0", api.REMU, minus - 6, 0, minus - 6},
		{"REMU of 2^31 and 2^32 - 1", api.REMU, top, minus, top},
	} {
		if w := Alu(c.op, c.a, c.b); w != c.w {
			t.Errorf("%s: %d, not %d", c.name, w, c.w)
		}
	}
}

// TestHolds: A3, word by word.
func TestHolds(t *testing.T) {
	pairs := [][2]uint32{{5, 5}, {1, 2}, {2, 1}, {minus, 0}, {0, minus}, {top, top - 1}, {top - 1, top}, {minus, minus}}
	for _, c := range []struct {
		name string
		op   int
		want [8]bool
	}{
		{"BEQ", api.BEQ, [8]bool{true, false, false, false, false, false, false, true}},
		{"BNE", api.BNE, [8]bool{false, true, true, true, true, true, true, false}},
		{"BLT", api.BLT, [8]bool{false, true, false, true, false, true, false, false}},
		{"BGE", api.BGE, [8]bool{true, false, true, false, true, false, true, true}},
		{"BLTU", api.BLTU, [8]bool{false, true, false, false, true, false, true, false}},
		{"BGEU", api.BGEU, [8]bool{true, false, true, true, false, true, false, true}},
	} {
		for k, p := range pairs {
			if got := Holds(c.op, p[0], p[1]); got != c.want[k] {
				t.Errorf("%s of %d and %d: %v", c.name, p[0], p[1], got)
			}
		}
	}
}

// TestOtherOps: A2 and A3, of every op of the other kind, and of numbers that are no op.
func TestOtherOps(t *testing.T) {
	ops := []int{math.MinInt, math.MaxInt, -1 << 32, 1 << 32, 1<<32 + api.ADD, 1<<32 + api.BEQ, 256 + api.ADD, 256 + api.BEQ, -api.ADD, -api.BEQ}
	for op := -100; op <= 100; op++ {
		ops = append(ops, op)
	}
	for _, op := range ops {
		for _, a := range edges() {
			for _, b := range edges() {
				if w := Alu(op, a, b); !(op >= api.ADD && op <= api.REMU) && w != 0 {
					t.Fatalf("Alu of op %d, %d and %d: %d", op, a, b, w)
				}
				if Holds(op, a, b) && !(op >= api.BEQ && op <= api.BGEU) {
					t.Fatalf("Holds of op %d, %d and %d", op, a, b)
				}
			}
		}
	}
}

// TestAgainstWholeNumbers: A1 to A3, of words at the edges and in between, held against numbers without a bound.
func TestAgainstWholeNumbers(t *testing.T) {
	words := append(edges(), spread(200)...)
	for _, a := range words {
		for _, b := range words {
			for op := api.ADD; op <= api.REMU; op++ {
				if w, want := Alu(op, a, b), wholeAlu(op, a, b); w != want {
					t.Fatalf("Alu of op %d, %d and %d: %d, not %d", op, a, b, w, want)
				}
			}
			for op := api.BEQ; op <= api.BGEU; op++ {
				if got, want := Holds(op, a, b), wholeHolds(op, a, b); got != want {
					t.Fatalf("Holds of op %d, %d and %d: %v", op, a, b, got)
				}
			}
		}
	}
}

// edges: words beside the powers of two, and beside what is 2^32 less.
func edges() []uint32 {
	l := []uint32{0, 1, 2, 3, 5, 7, 10, 30, 31, 32, 33, 63, 64}
	for _, k := range []int{8, 15, 16, 24, 30, 31} {
		l = append(l, 1<<k-1, 1<<k, 1<<k+1)
	}
	for n := range uint32(4) {
		l = append(l, minus-n)
	}
	return append(l, minus-31, minus-32, 0x55555555, 0xaaaaaaaa)
}

// spread: the same words in every run, with bits all over.
func spread(many int) []uint32 {
	var l []uint32
	w := uint32(12345)
	for range many {
		w = w*1664525 + 1013904223
		l = append(l, w^w>>13)
	}
	return l
}

func plain(w uint32) *big.Int {
	return new(big.Int).SetUint64(uint64(w))
}

func withSign(w uint32) *big.Int {
	n := plain(w)
	if n.Bit(31) == 1 {
		n.Sub(n, new(big.Int).Lsh(big.NewInt(1), 32))
	}
	return n
}

// lowest: the word that n is without what is beyond 32 bits, n's bits from down on.
func lowest(n *big.Int, down uint) uint32 {
	m := new(big.Int).Rsh(n, down) // of a number below 0 Rsh goes down, as the bits do
	return uint32(m.And(m, plain(minus)).Uint64())
}

func wholeAlu(op int, a, b uint32) uint32 {
	x, y, sx, sy := plain(a), plain(b), withSign(a), withSign(b)
	n := new(big.Int)
	by := uint(b % 32)
	switch op {
	case api.ADD:
		return lowest(n.Add(x, y), 0)
	case api.SUB:
		return lowest(n.Sub(x, y), 0)
	case api.AND:
		return lowest(n.And(x, y), 0)
	case api.OR:
		return lowest(n.Or(x, y), 0)
	case api.XOR:
		return lowest(n.Xor(x, y), 0)
	case api.SLL:
		return lowest(n.Lsh(x, by), 0)
	case api.SRL:
		return lowest(x, by)
	case api.SRA:
		return lowest(sx, by)
	case api.SLT:
		return whether(sx.Cmp(sy) < 0)
	case api.SLTU:
		return whether(x.Cmp(y) < 0)
	case api.MUL:
		return lowest(n.Mul(x, y), 0)
	case api.MULH:
		return lowest(n.Mul(sx, sy), 32)
	case api.MULHSU:
		return lowest(n.Mul(sx, y), 32)
	case api.MULHU:
		return lowest(n.Mul(x, y), 32)
	}
	return wholeDivision(op, a, b)
}

func wholeDivision(op int, a, b uint32) uint32 {
	x, y := plain(a), plain(b)
	if op == api.DIV || op == api.REM {
		x, y = withSign(a), withSign(b)
	}
	quotient := op == api.DIV || op == api.DIVU
	if b == 0 && quotient {
		return minus
	}
	if b == 0 {
		return a
	}
	q, r := new(big.Int).QuoRem(x, y, new(big.Int))
	if quotient {
		return lowest(q, 0)
	}
	return lowest(r, 0)
}

func whether(yes bool) uint32 {
	if yes {
		return 1
	}
	return 0
}

func wholeHolds(op int, a, b uint32) bool {
	switch op {
	case api.BEQ:
		return plain(a).Cmp(plain(b)) == 0
	case api.BNE:
		return plain(a).Cmp(plain(b)) != 0
	case api.BLT:
		return withSign(a).Cmp(withSign(b)) < 0
	case api.BGE:
		return withSign(a).Cmp(withSign(b)) >= 0
	case api.BLTU:
		return plain(a).Cmp(plain(b)) < 0
	}
	return plain(a).Cmp(plain(b)) >= 0
}

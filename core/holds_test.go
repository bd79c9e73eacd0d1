package core

import (
	"bytes"
	"encoding/binary"
	"math"
	"slices"
	"testing"

	"humpyard/api"
	"humpyard/decode"
	"humpyard/model"
)

// within60 is in how many cycles something is committed, at least.
const within60 = 60

// holds holds Run against model.Run, and what was handed in and what comes out against each other (J1 to J4, P3).
func holds(t *testing.T, name string, c api.Config, h api.Hart, m []byte, script []int, cycles int) api.Shown {
	t.Helper()
	// What lies behind the lists is there to be seen, if it were read or written.
	wholeMemory, wholeScript := append(bytes.Clone(m), 0x13, 0x05, 0x15, 0), append(slices.Clone(script), 1, 1, 1)
	handed, choices := wholeMemory[:len(m)], wholeScript[:len(script)]
	s, e := Run(c, h, handed, choices, cycles)
	if e != api.OK {
		t.Fatalf("%s, %+v, %d cycles: the error %d", name, c, cycles, e)
	}
	sameAsModel(t, name, c, h, m, s)
	counts(t, name, c, s, cycles)
	for n := range s.Memory {
		s.Memory[n]++
	}
	if !bytes.Equal(wholeMemory, append(bytes.Clone(m), 0x13, 0x05, 0x15, 0)) || !slices.Equal(wholeScript, append(slices.Clone(script), 1, 1, 1)) {
		t.Errorf("%s, %+v, %d cycles: what was handed in is not as it was", name, c, cycles)
	}
	for n := range s.Memory {
		s.Memory[n]--
	}
	if t.Failed() {
		t.Fatalf("%s: the script %v", name, script)
	}
	return s
}

// sameAsModel: J3.
func sameAsModel(t *testing.T, name string, c api.Config, h api.Hart, m []byte, s api.Shown) {
	t.Helper()
	commits, behind, left, e := model.Run(h, m, len(s.Commits))
	if e != api.OK || len(commits) != len(s.Commits) {
		t.Fatalf("%s, %+v: %d commits, but a model tells %d, with the error %d", name, c, len(s.Commits), len(commits), e)
	}
	for n := range commits {
		if s.Commits[n] != commits[n] {
			t.Fatalf("%s, %+v: commit %d is\n%+v, not\n%+v", name, c, n, s.Commits[n], commits[n])
		}
	}
	if s.Hart != behind {
		t.Errorf("%s, %+v: behind %d commits the hart is\n%+v, not\n%+v", name, c, len(commits), s.Hart, behind)
	}
	if !bytes.Equal(s.Memory, left) {
		t.Errorf("%s, %+v: behind %d commits the memory is\n%v, not\n%v", name, c, len(commits), s.Memory, left)
	}
}

// counts: J1's end, J2's bounds, J3's numbers, J4.
func counts(t *testing.T, name string, c api.Config, s api.Shown, cycles int) {
	t.Helper()
	if s.Cycles < 0 || s.Cycles > cycles || s.Cycles < cycles && s.Hart.State == api.Runs {
		t.Errorf("%s, %+v: %d cycles of %d, the hart's state is %d", name, c, s.Cycles, cycles, s.Hart.State)
	}
	if s.Taken < len(s.Commits) || s.Back < 0 || s.Back > s.Taken {
		t.Errorf("%s, %+v: %d commits, Taken is %d, Back %d", name, c, len(s.Commits), s.Taken, s.Back)
	}
	if len(s.Commits) > c.Wide*s.Cycles || len(s.Commits) < s.Cycles/within60 {
		t.Errorf("%s, %+v: %d commits in %d cycles", name, c, len(s.Commits), s.Cycles)
	}
}

// cores answers cores from the least to the greatest.
func cores() []api.Config {
	return []api.Config{
		least,
		{Window: 1, Phys: api.MaxPhys, Wide: api.MaxWide},
		{Window: 2, Phys: 34, Wide: 2},
		{Window: 5, Phys: 37, Wide: 3},
		usual,
		{Window: 8, Phys: 40, Wide: 2},
		{Window: 16, Phys: 64, Wide: 4},
		{Window: api.MaxWindow, Phys: 33, Wide: 1},
		{Window: api.MaxWindow, Phys: 33, Wide: api.MaxWide},
		{Window: api.MaxWindow, Phys: api.MaxPhys, Wide: 1},
		most,
	}
}

// dice answers what throws numbers from 0 to below many: always the same ones of the same seed.
func dice(seed uint32) func(int) int {
	return func(many int) int {
		seed = seed*1664525 + 1013904223
		return int(uint64(seed>>8) * uint64(many) >> 24)
	}
}

// scripted answers so many choices, each by its number.
func scripted(many int, of func(int) int) []int {
	l := make([]int, many)
	for n := range l {
		l[n] = of(n)
	}
	return l
}

func same(many, choice int) []int {
	return scripted(many, func(int) int { return choice })
}

// scripts answers choices of every sort.
func scripts() [][]int {
	small, great := dice(1), dice(2)
	ends := []int{math.MinInt, math.MaxInt, -1, 0, math.MinInt + 1, math.MaxInt - 1, math.MinInt32, math.MaxInt32}
	return [][]int{
		nil,
		{},
		{1},
		{17, 200, 1, 0, 33, 65},
		same(api.MaxScript, 0),
		same(api.MaxScript, 1),
		same(api.MaxScript, api.MaxLate),
		same(api.MaxScript, 19),
		same(api.MaxScript, 59),
		same(200, 41),
		same(api.MaxScript, -1),
		same(api.MaxScript, math.MinInt),
		same(api.MaxScript, math.MaxInt),
		scripted(api.MaxScript, func(n int) int { return n }),
		scripted(300, func(n int) int { return n % 2 }),
		scripted(api.MaxScript, func(n int) int { return -n * 7 }),
		scripted(api.MaxScript, func(n int) int { return ends[n%len(ends)] }),
		scripted(api.MaxScript, func(int) int { return small(60) }),
		scripted(api.MaxScript, func(int) int { return great(1<<24) - 1<<23 }),
	}
}

func told(t *testing.T, i api.Ins) uint32 {
	t.Helper()
	w, e := decode.Encode(i)
	if e != api.OK {
		t.Fatalf("%+v is no instruction", i)
	}
	return w
}

// program answers the bytes of instructions that follow each other; an empty one is a word that is none.
func program(t *testing.T, list ...api.Ins) []byte {
	t.Helper()
	var m []byte
	for _, i := range list {
		var w uint32
		if i != (api.Ins{}) {
			w = told(t, i)
		}
		m = binary.LittleEndian.AppendUint32(m, w)
	}
	return m
}

// sized answers so many bytes that begin with a program, and of which each of the others is another one.
func sized(size int, m []byte) []byte {
	for n := len(m); n < size; n++ {
		m = append(m, byte(n*89+120))
	}
	return m
}

// Instructions by what they have: an Rd and two registers; an Rd, a register and an Imm; two registers and an Imm (branches: what is held against each other; stores: where, and what); an Rd and an Imm.
func rr(op, rd, rs1, rs2 int) api.Ins {
	return api.Ins{Op: op, Rd: rd, Rs1: rs1, Rs2: rs2}
}

func ri(op, rd, rs1 int, imm int32) api.Ins {
	return api.Ins{Op: op, Rd: rd, Rs1: rs1, Imm: imm}
}

func si(op, rs1, rs2 int, imm int32) api.Ins {
	return api.Ins{Op: op, Rs1: rs1, Rs2: rs2, Imm: imm}
}

func ui(op, rd int, imm int32) api.Ins {
	return api.Ins{Op: op, Rd: rd, Imm: imm}
}

func set(rd int, n int32) api.Ins { return ri(api.ADDI, rd, 0, n) }
func add(rd int, n int32) api.Ins { return ri(api.ADDI, rd, rd, n) }
func nop() api.Ins                { return ri(api.ADDI, 0, 0, 0) }
func ecall() api.Ins              { return api.Ins{Op: api.ECALL} }
func ebreak() api.Ins             { return api.Ins{Op: api.EBREAK} }

// chain answers instructions that leave rd as it is, but so that its word is late: each needs what the one ahead of it gives.
func chain(rd, many int) []api.Ins {
	var l []api.Ins
	for range many {
		l = append(l, add(rd, 3), add(rd, -3))
	}
	return l
}

// list puts instructions and lists of them behind each other.
func list(parts ...any) []api.Ins {
	var l []api.Ins
	for _, p := range parts {
		switch p := p.(type) {
		case api.Ins:
			l = append(l, p)
		case []api.Ins:
			l = append(l, p...)
		}
	}
	return l
}

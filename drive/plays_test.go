package drive

import (
	"encoding/binary"
	"fmt"
	"strings"
	"testing"

	"humpyard/api"
	"humpyard/core"
	"humpyard/decode"
)

// The words of ECALL and EBREAK.
const (
	ecall  = 115
	ebreak = 1048691
)

// first is the core that there is at first.
var first = api.Config{Window: 8, Phys: 64, Wide: 2}

// plays holds a script's answer against what is wanted.
func plays(t *testing.T, script, want string) {
	t.Helper()
	if got := Play(script); got != want {
		t.Errorf("%s\nanswers\n%s\nnot\n%s", short(script), short(got), short(want))
	}
}

// short keeps a text that is told to what can be read.
func short(text string) string {
	const most = 600
	if len(text) > most {
		return fmt.Sprintf("%q .. (%d bytes)", text[:most], len(text))
	}
	return fmt.Sprintf("%q", text)
}

// lines answers a script, or an answer, of so many lines, each with its byte 10.
func lines(l ...string) string {
	var b strings.Builder
	for _, line := range l {
		b.WriteString(line + "\n")
	}
	return b.String()
}

// line answers a word, and numbers behind it.
func line[N int | uint32](word string, n ...N) string {
	for _, one := range n {
		word += fmt.Sprintf(" %d", one)
	}
	return word
}

// last answers the last line of a script's answer.
func last(t *testing.T, script string) string {
	t.Helper()
	l := strings.Split(Play(script), "\n")
	if len(l) < 2 || l[len(l)-1] != "" {
		t.Fatalf("%s answers %s", short(script), short(strings.Join(l, "\n")))
	}
	return l[len(l)-2]
}

func told(t *testing.T, list ...api.Ins) []uint32 {
	t.Helper()
	var words []uint32
	for _, i := range list {
		w, e := decode.Encode(i)
		if e != api.OK {
			t.Fatalf("%v is no instruction", i)
		}
		words = append(words, w)
	}
	return words
}

func laid(words ...uint32) []byte {
	var m []byte
	for _, w := range words {
		m = binary.LittleEndian.AppendUint32(m, w)
	}
	return m
}

// reader answers a program that tells, by the load op, from where register 5 leads to up to the memory's end, where it traps. Register 17 is to be 1.
func reader(t *testing.T, op int) []uint32 {
	many := map[int]int32{api.LW: 4, api.LBU: 1}[op]
	return told(t,
		api.Ins{Op: op, Rd: 10, Rs1: 5},
		api.Ins{Op: api.ECALL},
		api.Ins{Op: api.ADDI, Rd: 5, Rs1: 5, Imm: many},
		api.Ins{Op: api.JAL, Imm: -12},
	)
}

// readWords answers what model tells, once the reader of words is at its end, of a memory of these words, with register 5 being from.
func readWords(words []uint32, from int) string {
	var out []uint32
	for at := from; at < 4*len(words); at += 4 {
		out = append(out, words[at/4])
	}
	head := fmt.Sprintf("%d 2 3 0", 4*len(out)+1)
	return line(head, out...)
}

// registers answers a program that lays all registers into memory, tells all of them in order, and halts.
func registers(t *testing.T) []uint32 {
	const to = 512
	var l []api.Ins
	for r := range 32 {
		l = append(l, api.Ins{Op: api.SW, Rs2: r, Imm: int32(to + 4*r)})
	}
	l = append(l, api.Ins{Op: api.ADDI, Rd: 17, Imm: 1})
	for r := range 32 {
		l = append(l, api.Ins{Op: api.LW, Rd: 10, Imm: int32(to + 4*r)}, api.Ins{Op: api.ECALL})
	}
	l = append(l, api.Ins{Op: api.ADDI, Rd: 17}, api.Ins{Op: api.ECALL})
	return append(told(t, l...), make([]uint32, to/4)...)
}

// toldRegisters answers what model tells of registers.
func toldRegisters(regs [32]uint32) string {
	return line("99 1 0 392", regs[:]...)
}

// counter answers a program that goes on for ever, counts in registers that have nothing to do with each other, loads what it has stored, and branches now this way, now that way: how far a core comes with it in some cycles hangs on what core it is, and what its choices are.
func counter(t *testing.T) []uint32 {
	return append(told(t,
		api.Ins{Op: api.ADDI, Rd: 1, Rs1: 1, Imm: 1},
		api.Ins{Op: api.ADDI, Rd: 2, Rs1: 2, Imm: 3},
		api.Ins{Op: api.MUL, Rd: 3, Rs1: 1, Rs2: 2},
		api.Ins{Op: api.ADDI, Rd: 4, Rs1: 4, Imm: 5},
		api.Ins{Op: api.ADDI, Rd: 6, Rs1: 6, Imm: 7},
		api.Ins{Op: api.SW, Rs2: 3, Imm: 60},
		api.Ins{Op: api.ANDI, Rd: 7, Rs1: 1, Imm: 1},
		api.Ins{Op: api.BEQ, Rs1: 7, Imm: 8},
		api.Ins{Op: api.ADDI, Rd: 8, Rs1: 8, Imm: 1},
		api.Ins{Op: api.LW, Rd: 9, Imm: 60},
		api.Ins{Op: api.ADD, Rd: 10, Rs1: 9, Rs2: 8},
		api.Ins{Op: api.JAL, Imm: -44},
	), 0, 0, 0, 0)
}

// ranBy answers what a core tells of words in some cycles.
func ranBy(t *testing.T, c api.Config, words []uint32, choices []int, cycles int) string {
	t.Helper()
	s, e := core.Run(c, api.Hart{}, laid(words...), choices, cycles)
	if e != api.OK {
		t.Fatalf("%+v: the error %d", c, e)
	}
	out := []uint32{s.Hart.PC}
	for _, c := range s.Commits {
		if c.Out {
			out = append(out, c.Told)
		}
	}
	return line(fmt.Sprintf("%d %d %d", len(s.Commits), s.Hart.State, s.Hart.Cause), out...)
}

// dice answers what throws numbers from 0 to below many: always the same ones of the same seed.
func dice(seed uint32) func(int) int {
	return func(many int) int {
		seed = seed*1664525 + 1013904223
		return int(uint64(seed>>8) * uint64(many) >> 24)
	}
}

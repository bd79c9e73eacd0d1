package drive

import (
	"fmt"
	"strings"
	"testing"

	"humpyard/api"
	"humpyard/decode"
)

// story is a program, and what is told of it, once it has come to its end.
type story struct {
	name   string
	before []string // lines that are answered by ok
	words  []uint32
	ran    string
}

// script answers the lines that make the story ready, and their answers.
func (s story) script() (string, string) {
	script := line("words", s.words...) + "\n" + lines(s.before...)
	return script, fmt.Sprintf("ok %d\n", 4*len(s.words)) + strings.Repeat("ok\n", len(s.before))
}

// counts tells the numbers from 3 down to 1, and halts.
func counts(t *testing.T) []uint32 {
	return told(t,
		api.Ins{Op: api.ADDI, Rd: 10, Imm: 3},
		api.Ins{Op: api.ADDI, Rd: 17, Imm: 1},
		api.Ins{Op: api.ECALL},
		api.Ins{Op: api.ADDI, Rd: 10, Rs1: 10, Imm: -1},
		api.Ins{Op: api.BNE, Rs1: 10, Imm: -8},
		api.Ins{Op: api.ADDI, Rd: 17},
		api.Ins{Op: api.ECALL},
	)
}

// traps answers a program that tells 0, and then does w.
func traps(t *testing.T, w uint32) []uint32 {
	return append(told(t, api.Ins{Op: api.ADDI, Rd: 17, Imm: 1}, api.Ins{Op: api.ECALL}, api.Ins{Op: api.ADDI, Rd: 17, Imm: 2}), w, ecall)
}

func stories(t *testing.T) []story {
	return []story{
		{"no memory", nil, nil, "1 2 1 0"},
		{"halts at once", nil, []uint32{ecall}, "1 1 0 0"},
		{"tells nothing", nil, told(t, api.Ins{Op: api.ADDI, Rd: 1, Imm: 1}, api.Ins{Op: api.ECALL}), "2 1 0 4"},
		{"tells one word, and none is left", []string{"set 17 1", "set 10 4294967295"}, []uint32{ecall}, "2 2 1 4 4294967295"},
		{"tells one word twice", []string{"set 17 1", "set 10 2147483648"}, []uint32{ecall, ecall}, "3 2 1 8 2147483648 2147483648"},
		{"tells 0", []string{"set 17 1"}, []uint32{ecall}, "2 2 1 4 0"},
		{"counts", nil, counts(t), "13 1 0 24 3 2 1"},
		{"is begun elsewhere", []string{"pc 8", "set 17 1", "set 10 2"}, counts(t), "8 1 0 24 2 1"},
		{"is begun where no word is", []string{"pc 2"}, counts(t), "1 2 1 2"},
		{"no word", []string{"set 17 1"}, told(t, api.Ins{Op: api.JAL, Rd: 1, Imm: 2}, api.Ins{Op: api.FENCE}), "2 2 1 2"},
		{"no instruction", nil, traps(t, 0), "4 2 2 12 0"},
		{"a load", nil, traps(t, told(t, api.Ins{Op: api.LW, Rd: 1, Imm: -4})[0]), "4 2 3 12 0"},
		{"a store", nil, traps(t, told(t, api.Ins{Op: api.SH, Imm: 3})[0]), "4 2 4 12 0"},
		{"a call", nil, traps(t, ecall), "4 2 5 12 0"},
		{"a break", nil, traps(t, ebreak), "4 2 6 12 0"},
		{"writes over itself", []string{"set 1 115", "set 17 1", "set 10 8"}, told(t, api.Ins{Op: api.SW, Rs2: 1, Imm: 8}, api.Ins{Op: api.ADDI, Rd: 10, Rs1: 10, Imm: 1}, api.Ins{Op: api.EBREAK}), "4 2 1 12 9"},
		{"writes over what it was", []string{"set 1 1048691"}, told(t, api.Ins{Op: api.SW, Rs2: 1, Imm: 0}, api.Ins{Op: api.JAL, Imm: -4}), "3 2 6 0"},
	}
}

// TestStories: K2: how many commits, State, Cause, PC, and what came out, of a model and of a core alike.
func TestStories(t *testing.T) {
	for _, s := range stories(t) {
		script, want := s.script()
		plays(t, script+"model 2000\nmodel 100\nrun 6000\nrun 600\n", want+strings.Repeat(s.ran+"\n", 4))
		for _, c := range []string{"1 33 1", "32 96 4", "2 40 3", "16 34 4"} {
			for _, l := range []string{"choose", "choose 1 2 3 4 5 6 7 8 9", "choose" + strings.Repeat(" 4294967295", 3000), "choose" + strings.Repeat(" 29 17 58", 1000)} {
				got := last(t, script+"core "+c+"\n"+l+"\nrun 6000\n")
				if got != s.ran {
					t.Errorf("%s, core %s: %q, not %q", s.name, c, got, s.ran)
				}
			}
		}
	}
}

// TestFewSteps: K2: a model that is not yet at its end tells what it has done so far.
func TestFewSteps(t *testing.T) {
	script, want := []string{line("words", counts(t)...)}, []string{"ok 28"}
	for n, ran := range []string{
		"0 0 0 0", "1 0 0 4", "2 0 0 8", "3 0 0 12 3", "4 0 0 16 3", "5 0 0 8 3", "6 0 0 12 3 2", "7 0 0 16 3 2", "8 0 0 8 3 2", "9 0 0 12 3 2 1",
		"10 0 0 16 3 2 1", "11 0 0 20 3 2 1", "12 0 0 24 3 2 1", "13 1 0 24 3 2 1", "13 1 0 24 3 2 1",
	} {
		script, want = append(script, line("model", n)), append(want, ran)
	}
	plays(t, lines(script...), lines(want...))
}

// TestFewCycles: K2: a core that is not yet at its end tells what a model tells of so many steps.
func TestFewCycles(t *testing.T) {
	words := counts(t)
	program := line("words", words...)
	for cycles := range 40 {
		ran := last(t, lines(program, line("run", cycles)))
		if want := ranBy(t, first, words, nil, cycles); ran != want {
			t.Errorf("%d cycles: %q, not %q", cycles, ran, want)
		}
		commits, _, _ := strings.Cut(ran, " ")
		if want := last(t, lines(program, "model "+commits)); ran != want {
			t.Errorf("%d cycles: %q, but a model tells %q", cycles, ran, want)
		}
	}
}

// TestSteps: K2: steps from 0 to MaxSteps, and beyond: bad, and ErrRange.
func TestSteps(t *testing.T) {
	onto := line("words", told(t, api.Ins{Op: api.JAL})...)
	plays(t, lines(onto, "pc 0", "model 0", "model 1", "model 1999", "model 2000", "model 2001", "model 2002", "model 6000", "model 2147483648", "model 4294965297", "model 4294967295"),
		lines("ok 4", "ok", "0 0 0 0", "1 0 0 0", "1999 0 0 0", "2000 0 0 0", "bad 3", "bad 3", "bad 3", "bad 3", "bad 3", "bad 3"))
	plays(t, "model 2001\nmodel 4294967295\nmodel 2000", "bad 3\nbad 3\n1 2 1 0\n")
}

// TestCycles: K2: cycles from 0 to MaxCycles, and beyond: bad, and ErrRange.
func TestCycles(t *testing.T) {
	words := told(t, api.Ins{Op: api.JAL})
	plays(t, lines(line("words", words...), "run 0", "run 1", "run 5999", "run 6000", "run 6001", "run 6002", "run 2147483648", "run 4294961297", "run 4294967295"),
		lines("ok 4", "0 0 0 0", ranBy(t, first, words, nil, 1), ranBy(t, first, words, nil, 5999), ranBy(t, first, words, nil, 6000), "bad 3", "bad 3", "bad 3", "bad 3", "bad 3"))
	plays(t, "run 6001\nrun 4294967295\nrun 6000", "bad 3\nbad 3\n1 2 1 0\n")
}

// TestManyTold: K2: all that came out, in order, of a program that goes on.
func TestManyTold(t *testing.T) {
	program := line("words", told(t, api.Ins{Op: api.ECALL}, api.Ins{Op: api.ADDI, Rd: 10, Rs1: 10, Imm: 1}, api.Ins{Op: api.JAL, Imm: -8})...)
	for _, steps := range []int{1, 2, 3, 4, 100, 1999, 2000} {
		out := make([]uint32, (steps+2)/3)
		for n := range out {
			out[n] = uint32(n) + 4294967290
		}
		ran := line(fmt.Sprintf("%d 0 0 %d", steps, steps%3*4), out...)
		plays(t, lines(program, "set 17 1", "set 10 4294967290", line("model", steps)), lines("ok 12", "ok", "ok", ran))
	}
}

// TestNothingStays: K2: memory and hart are as they were behind each model and run: what was stored, set, and where it went on, are gone.
func TestNothingStays(t *testing.T) {
	for _, s := range stories(t) {
		script, want := s.script()
		for range 5 {
			script += "model 2000\nrun 6000\n"
			want += strings.Repeat(s.ran+"\n", 2)
		}
		script += "model 0\nrun 0\nwords\n"
		at := "0"
		if len(s.before) > 0 && strings.HasPrefix(s.before[0], "pc ") {
			at = s.before[0][len("pc "):]
		}
		want += strings.Repeat("0 0 0 "+at+"\n", 2) + fmt.Sprintf("ok %d\n", 4*len(s.words))
		plays(t, script, want)
	}
}

// TestEachState: K2: a line between others that run changes what is run from then on.
func TestEachState(t *testing.T) {
	plays(t, "set 17 1\nset 10 5\nmodel 9\nwords 115\nmodel 9\nrun 90\nset 10 6\nrun 90\nwords 115\nrun 90\npc 4\nrun 90\nset 17 0\nmodel 9\nset 17 2\nrun 90",
		"ok\nok\n1 2 1 0\nok 4\n2 2 1 4 5\n2 2 1 4 5\nok\n2 2 1 4 6\nok 8\n3 2 1 8 6 6\nok\n2 2 1 8 6\nok\n1 1 0 4\nok\n1 2 5 4\n")
}

// TestWhat: K2: words written out: of each form one, and ones that are none.
func TestWhat(t *testing.T) {
	for _, c := range []struct {
		w      uint32
		answer string
	}{
		{0, "no"},
		{4294967295, "no"},
		{1, "no"},
		{19, "is 19 0 0 0 0"},
		{ecall, "is 47 0 0 0 0"},
		{ebreak, "is 48 0 0 0 0"},
		{ecall + 1<<7, "no"},
		{0xfff00093, "is 19 1 0 0 4294967295"}, // Imm is -1
		{0x80000093, "is 19 1 0 0 4294965248"}, // Imm is -2048
		{0x7ff00093, "is 19 1 0 0 2047"},
		{0x800000b7, "is 1 1 0 0 2147483648"},
		{0xfffff0b7, "is 1 1 0 0 4294963200"},
		{0x7ffff097, "is 2 1 0 0 2147479552"},
		{0xffdff06f, "is 3 0 0 0 4294967292"},
		{0x40355213, "is 27 4 10 0 3"},
		{0x403101b3, "is 29 3 2 3 0"},
		{0xfe20ae23, "is 18 0 1 2 4294967292"},
		{0xfe208ee3, "is 5 0 1 2 4294967292"},
		{0x03ff8f33, "is 38 30 31 31 0"},
	} {
		plays(t, line("what", c.w), c.answer+"\n")
	}
}

// TestWhatEach: K2: an instruction of each kind, whose Rd, Rs1, Rs2 and Imm are all different, as far as its form has them.
func TestWhatEach(t *testing.T) {
	for op := api.LUI; op <= api.EBREAK; op++ {
		some := 0
		for _, imm := range []int32{0, 4, 17, -2, -2048, 1 << 12, -1 << 31} {
			for _, i := range []api.Ins{{Op: op, Rd: 5, Imm: imm}, {Op: op, Rd: 5, Rs1: 6, Imm: imm}, {Op: op, Rs1: 6, Rs2: 7, Imm: imm}, {Op: op, Rd: 5, Rs1: 6, Rs2: 7, Imm: imm}, {Op: op, Imm: imm}} {
				w, e := decode.Encode(i)
				if e != api.OK {
					continue
				}
				some++
				plays(t, line("what", w), fmt.Sprintf("is %d %d %d %d %d\n", i.Op, i.Rd, i.Rs1, i.Rs2, uint32(i.Imm)))
			}
		}
		if some == 0 {
			t.Errorf("%d: not tried", op)
		}
	}
}

// TestWhatIsAll: K2: what changes nothing.
func TestWhatIsAll(t *testing.T) {
	plays(t, "words 115\nwhat 19\nwords\nmodel 1\nwhat 0\nwhat 115\nrun 50\nmodel 0", "ok 4\nis 19 0 0 0 0\nok 4\n1 1 0 0\nno\nis 47 0 0 0 0\n1 1 0 0\n0 0 0 0\n")
}

package model

import (
	"bytes"
	"encoding/binary"
	"math"
	"slices"
	"testing"

	"humpyard/api"
	"humpyard/decode"
	"humpyard/hart"
)

// The words of ECALL and EBREAK.
const (
	ecall  = 115
	ebreak = 1048691
)

// before answers a hart that runs, with another word in each register, so that one that is taken for another shows; and Regs[17] 0.
func before(pc uint32) api.Hart {
	h := api.Hart{PC: pc}
	for n := 1; n < 32; n++ {
		h.Regs[n] = 0x91_00_00_00 + uint32(n)*0x01_03_05
	}
	h.Regs[17] = 0
	return h
}

// stopped answers a hart that does not run.
func stopped(state, cause int) api.Hart {
	h := before(4)
	h.State, h.Cause = state, cause
	return h
}

func told(t *testing.T, i api.Ins) uint32 {
	t.Helper()
	w, e := decode.Encode(i)
	if e != api.OK {
		t.Fatalf("%v is no instruction", i)
	}
	return w
}

// program answers the bytes of instructions that follow each other.
func program(t *testing.T, list ...api.Ins) []byte {
	t.Helper()
	var m []byte
	for _, i := range list {
		m = binary.LittleEndian.AppendUint32(m, told(t, i))
	}
	return m
}

// sized answers so many bytes of which each is another, with words from pc on.
func sized(size int, pc int, words ...uint32) []byte {
	m := make([]byte, size)
	for n := range m {
		m[n] = byte(n*89 + 120)
	}
	for n, w := range words {
		binary.LittleEndian.PutUint32(m[pc+4*n:], w)
	}
	return m
}

// does holds Run against what is wanted, and what was handed in against what it was.
func does(t *testing.T, name string, h api.Hart, m []byte, steps int, commits []api.Commit, behind api.Hart, left []byte) {
	t.Helper()
	was := bytes.Clone(m)
	l, x, k, e := Run(h, m, steps)
	if e != api.OK {
		t.Errorf("%s, %d steps: the error %d", name, steps, e)
	}
	if !slices.Equal(l, commits) {
		t.Errorf("%s, %d steps: the commits are\n%+v, not\n%+v", name, steps, l, commits)
	}
	if x != behind {
		t.Errorf("%s, %d steps: the hart is\n%+v, not\n%+v", name, steps, x, behind)
	}
	if !bytes.Equal(k, left) {
		t.Errorf("%s, %d steps: the memory is\n%v, not\n%v", name, steps, k, left)
	}
	for n := range k {
		k[n]++
	}
	if !bytes.Equal(m, was) {
		t.Errorf("%s, %d steps: what was handed in is not as it was", name, steps)
	}
}

func refuses(t *testing.T, name string, h api.Hart, m []byte, steps int, want api.Errno) {
	t.Helper()
	was := bytes.Clone(m)
	l, x, k, e := Run(h, m, steps)
	if e != want {
		t.Errorf("%s, %d bytes, %d steps: the error %d, not %d", name, len(m), steps, e, want)
	}
	if len(l) != 0 || x != (api.Hart{}) || len(k) != 0 {
		t.Errorf("%s, %d bytes, %d steps: with an error %+v %+v %v", name, len(m), steps, l, x, k)
	}
	if !bytes.Equal(m, was) {
		t.Errorf("%s, %d bytes, %d steps: what was handed in is not as it was", name, len(m), steps)
	}
}

var rightSteps = []int{0, 1, 2, api.MaxSteps - 1, api.MaxSteps}
var wrongSteps = []int{-1, -2, api.MaxSteps + 1, 2 * api.MaxSteps, math.MinInt32, math.MaxInt32, math.MinInt, math.MaxInt}

// TestNoSuchHart: E1: ErrForm, whatever the memory and the steps are.
func TestNoSuchHart(t *testing.T) {
	for _, c := range []struct {
		name         string
		zero         uint32
		state, cause int
	}{
		{"register 0 is 1", 1, api.Runs, 0},
		{"register 0, halted", 1 << 31, api.Halted, 0},
		{"register 0, trapped", math.MaxUint32, api.Trapped, api.CauseCall},
		{"below Runs", 0, api.Runs - 1, 0},
		{"above Trapped", 0, api.Trapped + 1, 0},
		{"above Trapped, with a cause", 0, api.Trapped + 1, api.CauseFetch},
		{"the least state", 0, math.MinInt, 0},
		{"the greatest state", 0, math.MaxInt, 0},
		{"runs, with a cause", 0, api.Runs, api.CauseFetch},
		{"halted, with a cause", 0, api.Halted, api.CauseBreak},
		{"trapped, no cause", 0, api.Trapped, 0},
		{"trapped, a cause below 0", 0, api.Trapped, -1},
		{"trapped, a cause beyond", 0, api.Trapped, api.CauseBreak + 1},
	} {
		h := stopped(c.state, c.cause)
		h.Regs[0] = c.zero
		for _, steps := range slices.Concat(rightSteps, wrongSteps) {
			refuses(t, c.name, h, nil, steps, api.ErrForm)
			refuses(t, c.name, h, sized(16, 4, ecall), steps, api.ErrForm)
			refuses(t, c.name, h, sized(api.MaxMemory+1, 4, ecall), steps, api.ErrForm)
		}
	}
}

// TestTooMuchMemory: E1: ErrForm, whatever the steps are, and of a hart that does not run, too.
func TestTooMuchMemory(t *testing.T) {
	for _, h := range []api.Hart{before(0), stopped(api.Halted, 0), stopped(api.Trapped, api.CauseLoad)} {
		for _, steps := range slices.Concat(rightSteps, wrongSteps) {
			refuses(t, "one byte more", h, sized(api.MaxMemory+1, 0, ecall), steps, api.ErrForm)
			refuses(t, "twice", h, sized(2*api.MaxMemory, 0, ecall), steps, api.ErrForm)
		}
	}
}

// TestWrongSteps: E1: ErrRange, where nothing else is wrong, and of a hart that does not run, too.
func TestWrongSteps(t *testing.T) {
	for _, h := range []api.Hart{before(0), stopped(api.Halted, 0), stopped(api.Trapped, api.CauseLoad)} {
		for _, m := range [][]byte{nil, {}, sized(16, 0, ecall), sized(api.MaxMemory, 0, ecall)} {
			for _, steps := range wrongSteps {
				refuses(t, "wrong steps", h, m, steps, api.ErrRange)
			}
			for _, steps := range rightSteps {
				if _, _, _, e := Run(h, m, steps); e != api.OK {
					t.Errorf("%d steps: the error %d", steps, e)
				}
			}
		}
	}
}

// TestStopped: E1: of a hart that does not run nothing is done.
func TestStopped(t *testing.T) {
	harts := []api.Hart{stopped(api.Halted, 0)}
	for cause := api.CauseFetch; cause <= api.CauseBreak; cause++ {
		harts = append(harts, stopped(api.Trapped, cause))
	}
	add := told(t, api.Ins{Op: api.ADDI, Rd: 1, Imm: 1})
	for _, h := range harts {
		for _, m := range [][]byte{nil, sized(16, 4, add), sized(api.MaxMemory, 4, add)} {
			for _, steps := range rightSteps {
				does(t, "stopped", h, m, steps, nil, h, m)
			}
		}
	}
}

// story is a program, and what is behind each of its instructions, written out.
type story struct {
	name    string
	h       api.Hart
	m       []byte
	commits []api.Commit
}

// tell plays a story's commits so far onto its hart and memory.
func (s story) tell(steps int) ([]api.Commit, api.Hart, []byte) {
	h, m := s.h, bytes.Clone(s.m)
	commits := s.commits[:min(steps, len(s.commits))]
	for _, c := range commits {
		h.PC, h.State, h.Cause = c.Next, c.State, c.Cause
		if c.Rd != 0 {
			h.Regs[c.Rd] = c.Value
		}
		for n := range c.Many {
			m[int(c.At)+n] = byte(c.Data >> (8 * n))
		}
	}
	return commits, h, m
}

// halts counts down from 3, and tells that it is there, ahead of its end.
func halts(t *testing.T) story {
	return story{"halts", before(0), program(t,
		api.Ins{Op: api.ADDI, Rd: 10, Imm: 3},
		api.Ins{Op: api.ADDI, Rd: 10, Rs1: 10, Imm: -1},
		api.Ins{Op: api.BNE, Rs1: 10, Imm: -4},
		api.Ins{Op: api.ADDI, Rd: 17, Imm: 1},
		api.Ins{Op: api.ECALL},
		api.Ins{Op: api.SB, Rs1: 0, Rs2: 17, Imm: 34},
		api.Ins{Op: api.ADDI, Rd: 17},
		api.Ins{Op: api.ECALL},
		api.Ins{Op: api.ADDI, Rd: 1, Imm: 9},
	), []api.Commit{
		{PC: 0, Next: 4, Rd: 10, Value: 3},
		{PC: 4, Next: 8, Rd: 10, Value: 2},
		{PC: 8, Next: 4},
		{PC: 4, Next: 8, Rd: 10, Value: 1},
		{PC: 8, Next: 4},
		{PC: 4, Next: 8, Rd: 10, Value: 0},
		{PC: 8, Next: 12},
		{PC: 12, Next: 16, Rd: 17, Value: 1},
		{PC: 16, Next: 20, Out: true, Told: 0},
		{PC: 20, Next: 24, At: 34, Many: 1, Data: 1},
		{PC: 24, Next: 28, Rd: 17, Value: 0},
		{PC: 28, Next: 28, State: api.Halted},
	}}
}

// traps has the word w, behind two instructions that do something, trap with a cause.
func traps(t *testing.T, name string, w uint32, cause int) story {
	m := program(t,
		api.Ins{Op: api.ADDI, Rd: 17, Imm: 2},
		api.Ins{Op: api.SH, Rs2: 17, Imm: 18},
	)
	m = binary.LittleEndian.AppendUint32(m, w)
	m = append(m, program(t, api.Ins{Op: api.ADDI, Rd: 1, Imm: 9}, api.Ins{Op: api.FENCE})...)
	return story{name, before(0), m, []api.Commit{
		{PC: 0, Next: 4, Rd: 17, Value: 2},
		{PC: 4, Next: 8, At: 18, Many: 2, Data: 2},
		{PC: 8, Next: 8, State: api.Trapped, Cause: cause},
	}}
}

// fetches goes on where there is no word.
func fetches(t *testing.T) story {
	return story{"no word", before(0), program(t,
		api.Ins{Op: api.JAL, Rd: 3, Imm: 8},
		api.Ins{Op: api.FENCE},
		api.Ins{Op: api.FENCE, Rd: 1},
	), []api.Commit{
		{PC: 0, Next: 8, Rd: 3, Value: 4},
		{PC: 8, Next: 12},
		{PC: 12, Next: 12, State: api.Trapped, Cause: api.CauseFetch},
	}}
}

// writesOver lays an ADDI over a word that comes later, and an ECALL over one that was done already, and that it goes back to.
func writesOver(t *testing.T) story {
	h := before(4)
	h.Regs[6] = told(t, api.Ins{Op: api.ADDI, Rd: 1, Imm: 77})
	h.Regs[7] = ecall
	return story{"writes over what comes later", h, program(t,
		api.Ins{Op: api.EBREAK},
		api.Ins{Op: api.SW, Rs2: 6, Imm: 12},
		api.Ins{Op: api.SW, Rs2: 7, Imm: 4},
		api.Ins{Op: api.EBREAK},
		api.Ins{Op: api.JAL, Imm: -12},
	), []api.Commit{
		{PC: 4, Next: 8, At: 12, Many: 4, Data: h.Regs[6]},
		{PC: 8, Next: 12, At: 4, Many: 4, Data: ecall},
		{PC: 12, Next: 16, Rd: 1, Value: 77},
		{PC: 16, Next: 4},
		{PC: 4, Next: 4, State: api.Halted},
	}}
}

// writesPart lays one byte over an instruction, which makes another one of it, and then none.
func writesPart(t *testing.T) story {
	h := before(0)
	h.Regs[6] = 0xffffff93 // the lowest byte of an ADDI with an odd Rd
	h.Regs[8] = 0
	return story{"writes over a byte of what comes later", h, program(t,
		api.Ins{Op: api.SB, Rs2: 6, Imm: 4},
		api.Ins{Op: api.ADDI, Rd: 8, Rs1: 8, Imm: 5},
		api.Ins{Op: api.SB, Imm: 12},
		api.Ins{Op: api.ADDI, Rd: 8, Rs1: 8, Imm: 5},
	), []api.Commit{
		{PC: 0, Next: 4, At: 4, Many: 1, Data: 0x93},
		{PC: 4, Next: 8, Rd: 9, Value: 5},
		{PC: 8, Next: 12, At: 12, Many: 1},
		{PC: 12, Next: 12, State: api.Trapped, Cause: api.CauseWord},
	}}
}

func stories(t *testing.T) []story {
	return []story{
		halts(t),
		fetches(t),
		traps(t, "no instruction", 0, api.CauseWord),
		traps(t, "a load", told(t, api.Ins{Op: api.LW, Rd: 1, Imm: 2}), api.CauseLoad),
		traps(t, "a load into register 0", told(t, api.Ins{Op: api.LB, Imm: 20}), api.CauseLoad),
		traps(t, "a store", told(t, api.Ins{Op: api.SB, Imm: -1}), api.CauseStore),
		traps(t, "another ECALL", ecall, api.CauseCall),
		traps(t, "EBREAK", ebreak, api.CauseBreak),
		writesOver(t),
		writesPart(t),
		{"halts at once", before(0), sized(4, 0, ecall), []api.Commit{{State: api.Halted}}},
		{"no memory", before(0), nil, []api.Commit{{State: api.Trapped, Cause: api.CauseFetch}}},
		{"empty memory", before(math.MaxUint32), []byte{}, []api.Commit{{PC: math.MaxUint32, Next: math.MaxUint32, State: api.Trapped, Cause: api.CauseFetch}}},
	}
}

// TestStories: E1: with no step, with each number of fewer steps than a program takes, just as many, and more.
func TestStories(t *testing.T) {
	for _, s := range stories(t) {
		many := len(s.commits)
		for steps := range many + 3 {
			commits, behind, left := s.tell(steps)
			does(t, s.name, s.h, s.m, steps, commits, behind, left)
		}
		commits, behind, left := s.tell(many)
		for _, steps := range []int{many + 100, api.MaxSteps - 1, api.MaxSteps} {
			does(t, s.name, s.h, s.m, steps, commits, behind, left)
		}
	}
}

// TestForEver: E1: of a program that goes on for ever so many instructions are done as are asked for.
func TestForEver(t *testing.T) {
	for _, steps := range []int{0, 1, 2, 3, 4, 5, 999, 1000, 1001, api.MaxSteps - 1, api.MaxSteps} {
		h := before(4)
		m := sized(16, 4, told(t, api.Ins{Op: api.JAL}))
		does(t, "onto itself", h, m, steps, slices.Repeat([]api.Commit{{PC: 4, Next: 4}}, steps), h, m)

		h = before(0)
		h.Regs[10], h.Regs[17] = 0, 1
		m = program(t, api.Ins{Op: api.ADDI, Rd: 10, Rs1: 10, Imm: 1}, api.Ins{Op: api.ECALL}, api.Ins{Op: api.JAL, Imm: -8})
		var commits []api.Commit
		for n := range steps {
			round := uint32(n/3 + 1)
			commits = append(commits, []api.Commit{
				{PC: 0, Next: 4, Rd: 10, Value: round},
				{PC: 4, Next: 8, Out: true, Told: round},
				{PC: 8, Next: 0},
			}[n%3])
		}
		after := h
		after.PC, after.Regs[10] = uint32(steps%3*4), uint32((steps+2)/3)
		does(t, "counts up", h, m, steps, commits, after, m)
	}
}

// TestLastStep: E1: programs whose last instruction is the one of number MaxSteps, and the one behind that.
func TestLastStep(t *testing.T) {
	count := func(rounds int32) (api.Hart, []byte) {
		h := before(0)
		h.Regs[5] = uint32(rounds)
		return h, program(t, api.Ins{Op: api.ADDI, Rd: 5, Rs1: 5, Imm: -1}, api.Ins{Op: api.BNE, Rs1: 5, Imm: -4}, api.Ins{Op: api.ECALL})
	}
	h, m := count(api.MaxSteps / 2)
	l, x, _, e := Run(h, m, api.MaxSteps)
	if e != api.OK || len(l) != api.MaxSteps || x.State != api.Runs || x.PC != 8 || x.Regs[5] != 0 {
		t.Errorf("one step is left out: %d commits, %+v, %d", len(l), x, e)
	}
	if l, x, _, _ = Run(x, m, 1); len(l) != 1 || x.State != api.Halted {
		t.Errorf("the step that was left out: %+v, %+v", l, x)
	}
	h, m = count(api.MaxSteps/2 - 1)
	l, x, _, e = Run(h, append(m, m...), api.MaxSteps)
	if e != api.OK || len(l) != api.MaxSteps-1 || x.State != api.Halted || l[len(l)-1].State != api.Halted {
		t.Errorf("one step less: %d commits, %+v, %d", len(l), x, e)
	}
}

// TestSizes: E1: a memory of MaxMemory bytes: its first and its last word are done, and then there is none.
func TestSizes(t *testing.T) {
	const last = api.MaxMemory - 4
	m := sized(api.MaxMemory, 0, told(t, api.Ins{Op: api.JALR, Rd: 1, Rs1: 6, Imm: 0}))
	binary.LittleEndian.PutUint32(m[last:], told(t, api.Ins{Op: api.SW, Rs1: 6, Rs2: 7, Imm: 0}))
	h := before(0)
	h.Regs[6], h.Regs[7] = last, ecall
	s := story{"MaxMemory", h, m, []api.Commit{
		{PC: 0, Next: last, Rd: 1, Value: 4},
		{PC: last, Next: api.MaxMemory, At: last, Many: 4, Data: ecall},
		{PC: api.MaxMemory, Next: api.MaxMemory, State: api.Trapped, Cause: api.CauseFetch},
	}}
	for _, steps := range []int{0, 1, 2, 3, 4, api.MaxSteps} {
		commits, behind, left := s.tell(steps)
		does(t, s.name, s.h, s.m, steps, commits, behind, left)
	}
}

// TestByStep: E1: what is done is what hart.Step does, again and again; and where it is done in two parts, the same.
func TestByStep(t *testing.T) {
	for _, s := range stories(t) {
		h, m := s.h, s.m
		var commits []api.Commit
		for steps := range len(s.commits) + 2 {
			does(t, s.name, s.h, s.m, steps, commits, h, m)
			first, x, k, _ := Run(s.h, s.m, steps)
			rest, x, k, e := Run(x, k, api.MaxSteps)
			whole, y, all, _ := Run(s.h, s.m, api.MaxSteps)
			if e != api.OK || !slices.Equal(append(first, rest...), whole) || x != y || !bytes.Equal(k, all) {
				t.Errorf("%s: otherwise, where it is done in two parts, %d steps first", s.name, steps)
			}
			if c, behind, left, ok := hart.Step(h, m); ok {
				commits, h, m = append(commits, c), behind, left
			}
		}
	}
}

// TestNewMemory: P3: what comes out is new memory, also where nothing is done or stored; what lies behind the length is neither read nor written.
func TestNewMemory(t *testing.T) {
	for _, s := range append(stories(t), story{name: "halted", h: stopped(api.Halted, 0), m: sized(16, 0)}, story{name: "trapped", h: stopped(api.Trapped, api.CauseCall), m: sized(16, 0)}) {
		for _, steps := range []int{0, 1, 2, api.MaxSteps} {
			all := append(bytes.Clone(s.m), sized(32, 0, ecall, ecall)...)
			was := bytes.Clone(all)
			_, _, l, _ := Run(s.h, all[:len(s.m)], steps)
			if len(l) != len(s.m) {
				t.Fatalf("%s, %d steps: %d bytes", s.name, steps, len(l))
			}
			left := bytes.Clone(l)
			l = append(l, 1, 2, 3, 4)
			for n := range l {
				l[n]++
			}
			if !bytes.Equal(all, was) {
				t.Errorf("%s, %d steps: what comes out shares with what was handed in", s.name, steps)
			}
			_, _, l, _ = Run(s.h, all[:len(s.m)], steps)
			for n := range all {
				all[n]++
			}
			if !bytes.Equal(l, left) {
				t.Errorf("%s, %d steps: what was handed in was kept", s.name, steps)
			}
		}
	}
	does(t, "a word behind the length", before(0), sized(16, 0, ecall)[:3], 5,
		[]api.Commit{{State: api.Trapped, Cause: api.CauseFetch}}, behindTrap(before(0), api.CauseFetch), sized(16, 0, ecall)[:3])
}

func behindTrap(h api.Hart, cause int) api.Hart {
	h.State, h.Cause = api.Trapped, cause
	return h
}

// TestSameAnswer: P3: what is answered hangs on the arguments alone, and a later call leaves what an earlier one has answered.
func TestSameAnswer(t *testing.T) {
	for _, s := range stories(t) {
		l, x, k, _ := Run(s.h, s.m, api.MaxSteps)
		commits, left := slices.Clone(l), bytes.Clone(k)
		for range 3 {
			d, y, j, _ := Run(s.h, s.m, api.MaxSteps)
			if !slices.Equal(d, commits) || y != x || !bytes.Equal(j, left) {
				t.Errorf("%s: another answer", s.name)
			}
			for n := range d {
				d[n] = api.Commit{}
			}
			for n := range j {
				j[n]++
			}
		}
		if !slices.Equal(l, commits) || !bytes.Equal(k, left) {
			t.Errorf("%s: two answers share memory", s.name)
		}
	}
}

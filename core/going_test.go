package core

import (
	"bytes"
	"math"
	"slices"
	"testing"

	"humpyard/api"
	"humpyard/rename"
)

// endless answers programs that never end: they jump, branch, load and store for ever.
func endless(t *testing.T) []story {
	t.Helper()
	round := func(name string, parts ...any) story {
		body := list(parts...)
		return tells(t, name, body, ui(api.JAL, 0, -4*int32(len(body))))
	}
	return []story{
		round("nothing"),
		round("one register", add(1, 1)),
		round("loads", ri(api.LW, 1, 8, 0), ri(api.LB, 2, 8, 3), ri(api.LHU, 3, 8, 2)),
		round("places that are loaded", ri(api.LBU, 1, 8, 0), rr(api.SUB, 2, 8, 1), ri(api.LBU, 1, 2, 1), rr(api.SUB, 2, 8, 1), ri(api.LBU, 1, 2, 2), si(api.SB, 8, 1, 0)),
		round("branches in turn", add(5, 1), ri(api.ANDI, 1, 5, 1), si(api.BEQ, 1, 0, 8), add(2, 1), ri(api.ANDI, 1, 5, 2), si(api.BEQ, 1, 0, 8), add(3, 1)),
		round("late stores", ri(api.LW, 7, 8, 4), rr(api.SUB, 7, 7, 7), rr(api.ADD, 7, 7, 8), si(api.SW, 7, 5, 0), ri(api.LW, 1, 8, 0), rr(api.ADD, 5, 5, 1)),
		round("itself", add(2, 1), ri(api.LW, 1, 0, 0), rr(api.XOR, 1, 1, 7), si(api.SW, 0, 1, 0)).with(7, 1<<20),
		round("jumps", ui(api.AUIPC, 1, 0), ri(api.ANDI, 2, 5, 4), rr(api.ADD, 1, 1, 2), ri(api.JALR, 3, 1, 16), add(5, 1), add(5, 1)),
		round("all of it", add(5, 1), ri(api.ANDI, 1, 5, 12), rr(api.ADD, 1, 1, 8), si(api.SW, 1, 5, 0), ri(api.LW, 2, 8, 4), si(api.BLT, 2, 5, 8), rr(api.DIV, 3, 2, 5), set(17, 1), ecall()),
	}
}

// with answers the story with another word in a register.
func (s story) with(r int, w uint32) story {
	s.h.Regs[r] = w
	return s
}

// held holds a core between two cycles against what must always be so.
func held(t *testing.T, name string, r *core, commits int) {
	t.Helper()
	if len(r.under) != len(r.slots) || len(r.under) > r.Window {
		t.Fatalf("%s, %+v, cycle %d: %d are under way, with %d slots", name, r.Config, r.Cycles, len(r.under), len(r.slots))
	}
	if now := len(r.Commits) - commits; now < 0 || now > r.Wide {
		t.Fatalf("%s, %+v, cycle %d: %d commits", name, r.Config, r.Cycles, now)
	}
	// Each physical register is a hart's, free, or what one that is under way will give back.
	all := slices.Concat(r.names.Regs[:], r.names.Free)
	for n, o := range r.under {
		if o.seq != r.slots[n].Seq || o.late < 0 || o.late > api.MaxLate || (o.state == done) != r.slots[n].Done {
			t.Fatalf("%s, %+v, cycle %d: %+v and %+v", name, r.Config, r.Cycles, o, r.slots[n])
		}
		if o.rd != 0 {
			all = append(all, o.old)
		}
	}
	slices.Sort(all)
	if !rename.May(r.names) || len(all) != r.Phys || len(slices.Compact(all)) != r.Phys {
		t.Fatalf("%s, %+v, cycle %d: the registers are %v", name, r.Config, r.Cycles, all)
	}
}

// goesOn does cycles one by one, and answers the most that went by without a commit.
func goesOn(t *testing.T, s story, c api.Config, script []int, cycles int) int {
	t.Helper()
	r := begin(c, s.h, s.m, script)
	longest, last := 0, 0
	for range cycles {
		if r.Hart.State != api.Runs {
			break
		}
		commits := len(r.Commits)
		r.cycle()
		held(t, s.name, r, commits)
		if len(r.Commits) > commits {
			last = r.Cycles
		}
		longest = max(longest, r.Cycles-last)
	}
	return longest
}

// TestEachCycle: J2, J4: cycle by cycle, at most Window are under way, at most Wide are committed, and something is in each 60.
func TestEachCycle(t *testing.T) {
	for _, s := range slices.Concat(endless(t), branches(t), memories(t), values(t), themselves(t)) {
		t.Run(s.name, func(t *testing.T) {
			t.Parallel()
			for _, c := range []api.Config{least, {Window: 5, Phys: 37, Wide: 3}, {Window: api.MaxWindow, Phys: 33, Wide: api.MaxWide}, most} {
				for _, script := range scripts() {
					if n := goesOn(t, s, c, script, 120); n >= within60 {
						t.Fatalf("%s, %+v, %v: nothing is committed in %d cycles", s.name, c, script, n)
					}
				}
			}
		})
	}
}

// TestForEver: J3, J4: up to MaxCycles. No more is committed than a model tells, but something to the end.
func TestForEver(t *testing.T) {
	for _, s := range endless(t) {
		t.Run(s.name, func(t *testing.T) {
			t.Parallel()
			for _, c := range []api.Config{least, usual, {Window: api.MaxWindow, Phys: 33, Wide: api.MaxWide}, most} {
				for _, script := range [][]int{nil, same(api.MaxScript, 1), same(api.MaxScript, api.MaxLate), same(api.MaxScript, 59)} {
					if n := goesOn(t, s, c, script, api.MaxCycles); n >= within60 {
						t.Fatalf("%s, %+v, %v: nothing is committed in %d cycles", s.name, c, script, n)
					}
					holds(t, s.name, c, s.h, s.m, script, api.MaxCycles)
				}
			}
		})
	}
}

// TestMore: J4: as it is seen from without: 60 cycles more are a commit more.
func TestMore(t *testing.T) {
	for _, s := range endless(t)[:3] {
		for _, c := range []api.Config{least, most} {
			commits := -1
			for _, cycles := range []int{0, 60, 120, 180, 600, 660, 1200, 1260, 1320, 3000, 3060, 5880, 5940, 6000} {
				got := holds(t, s.name, c, s.h, s.m, nil, cycles)
				if len(got.Commits) <= commits {
					t.Errorf("%s, %+v: %d commits by cycle %d", s.name, c, len(got.Commits), cycles)
				}
				commits = len(got.Commits)
			}
		}
	}
}

// TestCycles: J1, J3: each number of cycles; what is committed of one is the first of what is committed of another one.
func TestCycles(t *testing.T) {
	for _, s := range slices.Concat(endless(t), calls(t), wrongs(t)[:16], ends(t)[:6], stand()) {
		t.Run(s.name, func(t *testing.T) {
			t.Parallel()
			var longest []api.Commit
			for n, c := range cores() {
				script := scripts()[n%len(scripts())]
				for _, cycles := range []int{0, 1, 2, 3, 4, 5, 8, 13, 30, 59, 60, 61, 119, 120, 200} {
					got := holds(t, s.name, c, s.h, s.m, script, cycles).Commits
					short, long := got, longest
					if len(short) > len(long) {
						short, long = long, short
					}
					if !slices.Equal(short, long[:len(short)]) {
						t.Fatalf("%s, %+v, %d cycles: it is to be told from others", s.name, c, cycles)
					}
					longest = long
				}
			}
		})
	}
}

// TestNoCycles: J1: nothing is done.
func TestNoCycles(t *testing.T) {
	for _, s := range slices.Concat(endless(t), ends(t), stand()) {
		for _, c := range cores() {
			got := holds(t, s.name, c, s.h, s.m, []int{1, 2}, 0)
			if len(got.Commits) != 0 || got.Hart != s.h || !bytes.Equal(got.Memory, s.m) || got.Cycles != 0 || got.Taken != 0 || got.Back != 0 {
				t.Errorf("%s, %+v: %+v", s.name, c, got)
			}
		}
	}
}

// TestStands: J1: of a hart that does not run no cycle is done, however many are asked for.
func TestStands(t *testing.T) {
	for _, s := range stand() {
		for _, c := range cores() {
			for _, cycles := range []int{1, 60, api.MaxCycles} {
				got := holds(t, s.name, c, s.h, s.m, nil, cycles)
				if len(got.Commits) != 0 || got.Hart != s.h || !bytes.Equal(got.Memory, s.m) || got.Cycles != 0 || got.Taken != 0 || got.Back != 0 {
					t.Errorf("%+v, %d cycles: %+v", c, cycles, got)
				}
			}
		}
	}
}

// TestEnds: J1: the cycles end where the hart does not run any more, and no later.
func TestEnds(t *testing.T) {
	for _, s := range slices.Concat(calls(t), wrongs(t)) {
		for _, c := range []api.Config{least, usual, most} {
			got := holds(t, s.name, c, s.h, s.m, nil, api.MaxCycles)
			if got.Hart.State == api.Runs || got.Cycles == api.MaxCycles {
				t.Fatalf("%s, %+v: it does not end", s.name, c)
			}
			if less := holds(t, s.name, c, s.h, s.m, nil, got.Cycles-1); less.Hart.State != api.Runs {
				t.Errorf("%s, %+v: it is at its end ahead of the last cycle", s.name, c)
			}
			if again := holds(t, s.name, c, s.h, s.m, nil, got.Cycles); !shownSame(again, got) {
				t.Errorf("%s, %+v: as many cycles as it needs are not enough", s.name, c)
			}
		}
	}
}

// TestSwift: J2: what does not need each other is done at the same time, and guesses that come true cost nothing: else the core is none that guesses.
func TestSwift(t *testing.T) {
	for _, s := range []story{
		tells(t, "loads", loop(60, ri(api.LW, 1, 8, 0), ri(api.LW, 2, 8, 4), ri(api.LW, 3, 8, 8), ri(api.LW, 4, 8, 12))),
		tells(t, "none of others", loop(60, add(1, 1), add(2, 1), add(3, 1), add(4, 1))),
		tells(t, "a place that was loaded", loop(60, ri(api.LW, 1, 8, 0), ri(api.ANDI, 1, 1, 12), rr(api.ADD, 2, 8, 1), ri(api.LW, 3, 2, 0))),
	} {
		late := same(api.MaxScript, 2*(api.MaxLate/2))
		wide, narrow := holds(t, s.name, most, s.h, s.m, late, api.MaxCycles), holds(t, s.name, least, s.h, s.m, late, api.MaxCycles)
		if wide.Hart.State == api.Runs || narrow.Hart.State == api.Runs || wide.Cycles*4 > narrow.Cycles {
			t.Errorf("%s: %d cycles, and %d of the least core", s.name, wide.Cycles, narrow.Cycles)
		}
	}
}

// TestGuesses: J2: what is learnt, and what is chosen, counts: else neither would ever be wrong, and J3 not be asked of it.
func TestGuesses(t *testing.T) {
	const careful, unguessed = api.MaxLate + 1, 2 * (api.MaxLate + 1)
	turn := tells(t, "a branch that is learnt", loop(60, si(api.BEQ, 0, 0, 8), add(1, 1)))
	chased := tells(t, "a word that is learnt", loop(60, ri(api.LW, 1, 8, 0), ri(api.ANDI, 1, 1, 12), rr(api.ADD, 2, 8, 1), ri(api.LW, 3, 2, 0), rr(api.ADD, 8, 8, 0), si(api.BLT, 3, 3, 8)))
	store := tells(t, "a late store elsewhere", loop(20, ri(api.ADDI, 7, 8, 4), chain(7, 4), si(api.SW, 7, 5, 0), ri(api.LW, 1, 8, 0), chain(1, 4)))
	for _, one := range []struct {
		s          story
		swift, not int
	}{
		{turn, 0, 1},
		{chased, 8, 8 + unguessed},
		{store, unguessed, unguessed + careful},
	} {
		swift := holds(t, one.s.name, most, one.s.h, one.s.m, same(api.MaxScript, one.swift), api.MaxCycles)
		not := holds(t, one.s.name, most, one.s.h, one.s.m, same(api.MaxScript, one.not), api.MaxCycles)
		if swift.Hart.State == api.Runs || swift.Cycles >= not.Cycles {
			t.Errorf("%s: %d cycles by the better choice, %d by the other one", one.s.name, swift.Cycles, not.Cycles)
		}
	}
	jump := tells(t, "a jump that is learnt", loop(60, ui(api.AUIPC, 1, 0), ri(api.JALR, 2, 1, 12), add(3, 1), nop()))
	for _, s := range []story{turn, jump} {
		if got := holds(t, s.name, most, s.h, s.m, nil, api.MaxCycles); got.Back > 12 {
			t.Errorf("%s: it is taken back %d times", s.name, got.Back)
		}
	}
}

func shownSame(a, b api.Shown) bool {
	return slices.Equal(a.Commits, b.Commits) && a.Hart == b.Hart && bytes.Equal(a.Memory, b.Memory) && a.Cycles == b.Cycles && a.Taken == b.Taken && a.Back == b.Back
}

// TestSameAnswer: P3: what is answered hangs on the arguments alone, and is new each time.
func TestSameAnswer(t *testing.T) {
	for _, s := range slices.Concat(endless(t), memories(t), themselves(t), stand(), ends(t)[:3]) {
		for _, script := range [][]int{nil, {math.MinInt, math.MaxInt, -1}, same(300, 41)} {
			first := holds(t, s.name, usual, s.h, s.m, script, 200)
			keptCommits, keptMemory := slices.Clone(first.Commits), bytes.Clone(first.Memory)
			second := holds(t, s.name, usual, s.h, bytes.Clone(s.m), append(slices.Clone(script), same(5, 1)...)[:len(script)], 200)
			if !shownSame(first, second) {
				t.Errorf("%s: %+v, and then %+v", s.name, first, second)
			}
			for n := range second.Commits {
				second.Commits[n] = api.Commit{}
			}
			for n := range second.Memory {
				second.Memory[n]++
			}
			if !slices.Equal(first.Commits, keptCommits) || !bytes.Equal(first.Memory, keptMemory) {
				t.Errorf("%s: two answers share memory", s.name)
			}
		}
	}
}

package core

import (
	"bytes"
	"math"
	"slices"
	"testing"

	"humpyard/api"
)

// least and most are the ends of what a core's numbers may be.
var (
	least = api.Config{Window: 1, Phys: 33, Wide: 1}
	most  = api.Config{Window: api.MaxWindow, Phys: api.MaxPhys, Wide: api.MaxWide}
	usual = api.Config{Window: 8, Phys: 64, Wide: 2}
)

// around answers numbers that are from low to high, and ones that are not.
func around(low, high int) ([]int, []int) {
	return []int{low, low + 1, (low + high) / 2, high - 1, high}, []int{low - 1, high + 1, -1, -low, -high, math.MinInt32, math.MaxInt32, math.MinInt, math.MaxInt}
}

// field is one of a core's numbers: how it is set, and from where to where it may be.
type field struct {
	name      string
	set       func(*api.Config, int)
	low, high int
}

func fields() []field {
	return []field{
		{"Window", func(c *api.Config, n int) { c.Window = n }, 1, api.MaxWindow},
		{"Phys", func(c *api.Config, n int) { c.Phys = n }, 33, api.MaxPhys},
		{"Wide", func(c *api.Config, n int) { c.Wide = n }, 1, api.MaxWide},
	}
}

// TestMay: J1: each number alone.
func TestMay(t *testing.T) {
	for _, f := range fields() {
		right, wrong := around(f.low, f.high)
		for _, c := range []api.Config{least, most, usual} {
			for _, n := range right {
				f.set(&c, n)
				if !May(c) {
					t.Errorf("%s %d: %+v may be", f.name, n, c)
				}
			}
			for _, n := range append(wrong, 0) {
				f.set(&c, n)
				if May(c) {
					t.Errorf("%s %d: %+v may not be", f.name, n, c)
				}
			}
		}
	}
	if May(api.Config{}) {
		t.Error("an empty core may not be")
	}
}

// TestMaySeveral: J1: a number that may be does not make up for one that may not.
func TestMaySeveral(t *testing.T) {
	for window := -1; window <= api.MaxWindow+2; window++ {
		for phys := -1; phys <= api.MaxPhys+2; phys++ {
			for wide := -1; wide <= api.MaxWide+2; wide++ {
				want := window >= 1 && window <= 32 && phys >= 33 && phys <= 96 && wide >= 1 && wide <= 4
				if c := (api.Config{Window: window, Phys: phys, Wide: wide}); May(c) != want {
					t.Errorf("%+v: %v", c, !want)
				}
			}
		}
	}
}

// call is what Run is asked.
type call struct {
	c      api.Config
	h      api.Hart
	m      []byte
	script []int
	cycles int
}

// asked is a call in which nothing is wrong.
func asked() call {
	return call{usual, api.Hart{}, make([]byte, 16), []int{3, 1, 4}, 20}
}

func refuses(t *testing.T, name string, a call, want api.Errno) {
	t.Helper()
	m, script := bytes.Clone(a.m), slices.Clone(a.script)
	s, e := Run(a.c, a.h, a.m, a.script, a.cycles)
	if e != want {
		t.Errorf("%s: the error %d, not %d", name, e, want)
	}
	if len(s.Commits) != 0 || s.Hart != (api.Hart{}) || len(s.Memory) != 0 || s.Cycles != 0 || s.Taken != 0 || s.Back != 0 {
		t.Errorf("%s: with an error %+v", name, s)
	}
	if !bytes.Equal(a.m, m) || !slices.Equal(a.script, script) {
		t.Errorf("%s: what was handed in is not as it was", name)
	}
}

// fault is one thing that is wrong with a call.
type fault struct {
	name string
	make func(*call)
	e    api.Errno
}

func noSuchHart(name string, zero uint32, state, cause int) fault {
	return fault{name, func(a *call) { a.h.Regs[0], a.h.State, a.h.Cause = zero, state, cause }, api.ErrForm}
}

// faults answers all that may be wrong, in the order in which it is told.
func faults() []fault {
	var l []fault
	for _, f := range fields() {
		_, wrong := around(f.low, f.high)
		for _, n := range append(wrong, 0) {
			l = append(l, fault{f.name, func(a *call) { f.set(&a.c, n) }, api.ErrForm})
		}
	}
	l = append(l,
		noSuchHart("register 0 is 1", 1, api.Runs, 0),
		noSuchHart("register 0, halted", 1<<31, api.Halted, 0),
		noSuchHart("register 0, trapped", math.MaxUint32, api.Trapped, api.CauseCall),
		noSuchHart("below Runs", 0, api.Runs-1, 0),
		noSuchHart("above Trapped", 0, api.Trapped+1, 0),
		noSuchHart("above Trapped, with a cause", 0, api.Trapped+1, api.CauseFetch),
		noSuchHart("the least state", 0, math.MinInt, 0),
		noSuchHart("the greatest state", 0, math.MaxInt, 0),
		noSuchHart("runs, with a cause", 0, api.Runs, api.CauseFetch),
		noSuchHart("halted, with a cause", 0, api.Halted, api.CauseBreak),
		noSuchHart("trapped, no cause", 0, api.Trapped, 0),
		noSuchHart("trapped, a cause below 0", 0, api.Trapped, -1),
		noSuchHart("trapped, a cause beyond", 0, api.Trapped, api.CauseBreak+1),
	)
	for _, n := range []int{api.MaxMemory + 1, 2 * api.MaxMemory} {
		l = append(l, fault{"memory", func(a *call) { a.m = make([]byte, n) }, api.ErrForm})
	}
	for _, n := range []int{api.MaxScript + 1, 2 * api.MaxScript} {
		l = append(l, fault{"script", func(a *call) { a.script = make([]int, n) }, api.ErrSize})
	}
	for _, n := range []int{-1, -2, -api.MaxCycles, api.MaxCycles + 1, math.MinInt32, math.MaxInt32, math.MinInt, math.MaxInt} {
		l = append(l, fault{"cycles", func(a *call) { a.cycles = n }, api.ErrRange})
	}
	return l
}

// TestFaults: J1: each thing that is wrong, alone, and with each other one: the first one is told, and all else is zero (P2).
func TestFaults(t *testing.T) {
	l := faults()
	for n, f := range l {
		alone := asked()
		f.make(&alone)
		refuses(t, f.name, alone, f.e)
		for _, g := range l[n+1:] {
			both := asked()
			g.make(&both)
			f.make(&both)
			refuses(t, f.name+" and "+g.name, both, f.e)
		}
	}
}

// TestFaultsOfOneThatStands: J1: what is wrong is told also of a hart that does not run.
func TestFaultsOfOneThatStands(t *testing.T) {
	for _, f := range faults() {
		a := asked()
		a.h.State = api.Halted
		f.make(&a)
		refuses(t, f.name+", halted", a, f.e)
	}
}

// TestLimits: J1: what is just within the limits is done.
func TestLimits(t *testing.T) {
	for _, size := range []int{0, 1, 4, api.MaxMemory - 1, api.MaxMemory} {
		for _, choices := range []int{0, 1, api.MaxScript - 1, api.MaxScript} {
			for _, cycles := range []int{0, 1, api.MaxCycles - 1, api.MaxCycles} {
				for _, c := range []api.Config{least, most} {
					// The bytes are 0, which is no instruction: the hart traps soon.
					holds(t, "limits", c, api.Hart{}, make([]byte, size), make([]int, choices), cycles)
				}
			}
		}
	}
}

package guess

import (
	"math"
	"testing"

	"humpyard/api"
)

const top = math.MaxUint32

// filled answers a table of which each counter and value is another, so that one that is taken for another shows; some Levels and Sures are beyond 0 to 3, so that one that is put right without need shows.
func filled() api.Table {
	var t api.Table
	for n := range t.Counters {
		t.Counters[n] = api.Counter{Level: n - 6, Target: 0x81_00_00_00 + uint32(n)*0x01_03_05}
	}
	for n := range t.Values {
		k := uint32(n)
		t.Values[n] = api.Value{PC: 0x41_00_00_00 + 64*k, Last: 0xa1_00_00_00 + k*0x01_07_0b, Stride: 0x31 + k, Sure: n - 2}
	}
	return t
}

// place is a pc, and the number that is its own.
type place struct {
	pc uint32
	n  int
}

var counterPlaces = []place{
	{0, 0}, {1, 0}, {2, 0}, {3, 0},
	{4, 1}, {5, 1}, {6, 1}, {7, 1},
	{8, 2}, {12, 3}, {16, 4}, {20, 5}, {24, 6}, {28, 7}, {32, 8}, {36, 9}, {40, 10}, {44, 11}, {48, 12}, {52, 13}, {56, 14},
	{59, 14}, {60, 15}, {61, 15}, {63, 15},
	{64, 0}, {65, 0}, {67, 0}, {68, 1}, {124, 15}, {128, 0},
	{1<<31 - 1, 15}, {1 << 31, 0}, {1<<31 + 4, 1},
	{top - 63, 0}, {top - 4, 14}, {top - 3, 15}, {top - 1, 15}, {top, 15},
}

var valuePlaces = []place{
	{0, 0}, {1, 0}, {2, 0}, {3, 0},
	{4, 1}, {5, 1}, {7, 1},
	{8, 2}, {12, 3}, {16, 4}, {20, 5}, {24, 6},
	{27, 6}, {28, 7}, {29, 7}, {31, 7},
	{32, 0}, {35, 0}, {36, 1}, {60, 7}, {64, 0}, {100, 1},
	{1<<31 - 1, 7}, {1 << 31, 0}, {1<<31 + 4, 1},
	{top - 31, 0}, {top - 4, 6}, {top - 3, 7}, {top - 1, 7}, {top, 7},
}

// behind holds a table against what is wanted, and the one that was handed in against what it was.
func behind(t *testing.T, name string, got, want, handed, was api.Table) {
	t.Helper()
	if got != want {
		t.Errorf("%s: the table is\n%+v, not\n%+v", name, got, want)
	}
	if handed != was {
		t.Errorf("%s: what was handed in is not as it was", name)
	}
}

// TestBranch: F1: whether the Level is 2 or more, and the Target, taken or not.
func TestBranch(t *testing.T) {
	for _, p := range counterPlaces {
		for _, c := range []struct {
			level int
			want  bool
		}{
			{math.MinInt, false}, {math.MinInt32, false}, {-3, false}, {-2, false}, {-1, false},
			{0, false}, {1, false}, {2, true}, {3, true},
			{4, true}, {5, true}, {math.MaxInt32, true}, {math.MaxInt, true},
		} {
			for _, target := range []uint32{0, 1, 64, 1 << 31, top} {
				x := filled()
				x.Counters[p.n] = api.Counter{Level: c.level, Target: target}
				was := x
				is, to := Branch(x, p.pc)
				if is != c.want || to != target {
					t.Errorf("pc %d, Level %d: %v %d, not %v %d", p.pc, c.level, is, to, c.want, target)
				}
				if x != was {
					t.Errorf("pc %d: what was handed in is not as it was", p.pc)
				}
			}
		}
	}
}

// TestLearnBranch: F1 and F3: one Level more or less, within 0 to 3; the Target turns only where it was taken; all else is as it was.
func TestLearnBranch(t *testing.T) {
	for _, p := range counterPlaces {
		for _, c := range []struct{ level, taken, not int }{
			{math.MinInt, 1, 0}, {math.MinInt32, 1, 0}, {-3, 1, 0}, {-2, 1, 0}, {-1, 1, 0},
			{0, 1, 0}, {1, 2, 0}, {2, 3, 1}, {3, 3, 2},
			{4, 3, 2}, {5, 3, 2}, {math.MaxInt32, 3, 2}, {math.MaxInt, 3, 2},
		} {
			for _, target := range []uint32{0, 1, 64, p.pc, 1 << 31, top} {
				x := filled()
				x.Counters[p.n].Level = c.level
				was, want := x, x
				want.Counters[p.n] = api.Counter{Level: c.taken, Target: target}
				behind(t, "taken", LearnBranch(x, p.pc, true, target), want, x, was)
				want.Counters[p.n] = api.Counter{Level: c.not, Target: was.Counters[p.n].Target}
				behind(t, "not taken", LearnBranch(x, p.pc, false, target), want, x, was)
			}
		}
	}
}

// TestBranchLearnt: F1: a branch that is taken two times is one that is guessed to be; and it takes two more, the other way, till it is not.
func TestBranchLearnt(t *testing.T) {
	var x api.Table
	for n, c := range []struct {
		taken  bool
		target uint32
		is     bool
		to     uint32
	}{
		{false, 9, false, 0},
		{true, 64, false, 64},
		{true, 68, true, 68},
		{true, 72, true, 72},
		{true, 76, true, 76},
		{false, 80, true, 76},
		{false, 84, false, 76},
		{true, 88, true, 88},
		{false, 92, false, 88},
		{false, 96, false, 88},
		{false, 96, false, 88},
		{true, 100, false, 100},
		{true, 0, true, 0},
	} {
		x = LearnBranch(x, 8, c.taken, c.target)
		for _, pc := range []uint32{8, 11, 72, 8 + 1<<31} {
			if is, to := Branch(x, pc); is != c.is || to != c.to {
				t.Errorf("behind %d, pc %d: %v %d, not %v %d", n, pc, is, to, c.is, c.to)
			}
		}
		for _, pc := range []uint32{4, 12, 40} {
			if is, to := Branch(x, pc); is || to != 0 {
				t.Errorf("behind %d, pc %d: %v %d", n, pc, is, to)
			}
		}
	}
}

// sums are Last and Stride, and both together, some beyond 32 bits.
var sums = []struct{ last, stride, sum uint32 }{
	{0, 0, 0}, {100, 0, 100}, {0, 8, 8}, {100, 8, 108},
	{top - 1, 1, top}, {top, 0, top}, {0, top, top},
	{top, 1, 0}, {1, top, 0}, {1 << 31, 1 << 31, 0},
	{top, 9, 8}, {9, top - 7, 1}, {5, top, 4},
	{top, top, top - 1}, {1<<31 - 1, 1<<31 + 3, 2},
}

// others answers places that are not pc, but of its value.
func others(pc uint32) []uint32 {
	return []uint32{pc + 32, pc - 32, pc + 64, pc + 1<<31, pc ^ 1, pc ^ 2, pc ^ 3}
}

// TestValue: F2: Last and Stride together where PC is pc and Sure 2 or more.
func TestValue(t *testing.T) {
	for _, p := range valuePlaces {
		for _, c := range []struct {
			sure int
			want bool
		}{
			{math.MinInt, false}, {math.MinInt32, false}, {-3, false}, {-2, false}, {-1, false},
			{0, false}, {1, false}, {2, true}, {3, true},
			{4, true}, {5, true}, {math.MaxInt32, true}, {math.MaxInt, true},
		} {
			for _, s := range sums {
				x := filled()
				x.Values[p.n] = api.Value{PC: p.pc, Last: s.last, Stride: s.stride, Sure: c.sure}
				was := x
				var want uint32
				if c.want {
					want = s.sum
				}
				if v, ok := Value(x, p.pc); v != want || ok != c.want {
					t.Errorf("pc %d, %+v: %d %v, not %d %v", p.pc, x.Values[p.n], v, ok, want, c.want)
				}
				if x != was {
					t.Errorf("pc %d: what was handed in is not as it was", p.pc)
				}
			}
		}
	}
}

// TestValueOfAnother: F2: 0 and false where the PC is another one, however sure it is.
func TestValueOfAnother(t *testing.T) {
	for _, p := range valuePlaces {
		for _, pc := range others(p.pc) {
			for _, sure := range []int{math.MinInt, -1, 0, 1, 2, 3, 4, math.MaxInt} {
				x := filled()
				x.Values[p.n] = api.Value{PC: pc, Last: 100, Stride: 8, Sure: sure}
				if v, ok := Value(x, p.pc); v != 0 || ok {
					t.Errorf("pc %d, %+v: %d %v", p.pc, x.Values[p.n], v, ok)
				}
			}
		}
	}
}

// TestLearnAsLookedFor: F2 and F3: one Sure more, within 0 to 3, Last is v, Stride as it was; all else is as it was.
func TestLearnAsLookedFor(t *testing.T) {
	for _, p := range valuePlaces {
		for _, c := range []struct{ sure, want int }{
			{math.MinInt, 1}, {math.MinInt32, 1}, {-3, 1}, {-2, 1}, {-1, 1},
			{0, 1}, {1, 2}, {2, 3}, {3, 3},
			{4, 3}, {5, 3}, {math.MaxInt32, 3}, {math.MaxInt, 3},
		} {
			for _, s := range sums {
				x := filled()
				x.Values[p.n] = api.Value{PC: p.pc, Last: s.last, Stride: s.stride, Sure: c.sure}
				was, want := x, x
				want.Values[p.n] = api.Value{PC: p.pc, Last: s.sum, Stride: s.stride, Sure: c.want}
				behind(t, "as was looked for", LearnValue(x, p.pc, s.sum), want, x, was)
			}
		}
	}
}

// TestLearnNotAsLookedFor: F2 and F3: Sure is 0, Stride v less Last, Last v; all else is as it was.
func TestLearnNotAsLookedFor(t *testing.T) {
	for _, p := range valuePlaces {
		for _, sure := range []int{math.MinInt, -1, 0, 1, 2, 3, 4, math.MaxInt} {
			for _, c := range []struct{ last, stride, v, grown uint32 }{
				{100, 8, 109, 9}, {100, 8, 107, 7}, {100, 8, 100, 0}, {100, 8, 99, top},
				{100, 8, 0, top - 99}, {100, 8, 8, top - 91}, {100, 8, top, top - 100},
				{0, 0, 1, 1}, {0, 0, top, top}, {0, 8, 0, 0},
				{top, 1, top, 0}, {top, 1, 1, 2}, {top, 0, 0, 1},
				{1 << 31, 1 << 31, 1 << 31, 0}, {1 << 31, 0, 0, 1 << 31}, {0, 0, 1 << 31, 1 << 31},
				{5, top, 3, top - 1}, {3, 0, 1, top - 1},
			} {
				x := filled()
				x.Values[p.n] = api.Value{PC: p.pc, Last: c.last, Stride: c.stride, Sure: sure}
				was, want := x, x
				want.Values[p.n] = api.Value{PC: p.pc, Last: c.v, Stride: c.grown}
				behind(t, "another than was looked for", LearnValue(x, p.pc, c.v), want, x, was)
			}
		}
	}
}

// TestLearnOfAnother: F2 and F3: a place takes the value of another one, also where v is what that one looked for; all else is as it was.
func TestLearnOfAnother(t *testing.T) {
	for _, p := range valuePlaces {
		for _, pc := range others(p.pc) {
			for _, sure := range []int{math.MinInt, -1, 0, 1, 2, 3, 4, math.MaxInt} {
				for _, v := range []uint32{0, 8, 100, 108, 1 << 31, top} {
					x := filled()
					x.Values[p.n] = api.Value{PC: pc, Last: 100, Stride: 8, Sure: sure}
					was, want := x, x
					want.Values[p.n] = api.Value{PC: p.pc, Last: v}
					behind(t, "another place", LearnValue(x, p.pc, v), want, x, was)
				}
			}
		}
	}
}

// TestEmptyTable: F2: in an empty table the first value is one of the place 0, the others are of none that they could be of.
func TestEmptyTable(t *testing.T) {
	for _, c := range []struct {
		pc, v uint32
		n     int
		want  api.Value
	}{
		{0, 0, 0, api.Value{Sure: 1}},
		{0, 7, 0, api.Value{Last: 7, Stride: 7}},
		{1, 7, 0, api.Value{PC: 1, Last: 7}},
		{32, 0, 0, api.Value{PC: 32}},
		{4, 0, 1, api.Value{PC: 4}},
		{28, 7, 7, api.Value{PC: 28, Last: 7}},
		{top, top, 7, api.Value{PC: top, Last: top}},
	} {
		var x, want api.Table
		want.Values[c.n] = c.want
		behind(t, "empty", LearnValue(x, c.pc, c.v), want, x, api.Table{})
		if v, ok := Value(x, c.pc); v != 0 || ok {
			t.Errorf("pc %d: %d %v", c.pc, v, ok)
		}
	}
}

// TestValueLearnt: F2: what is loaded is guessed when it came two times as was looked for, and not any more when it did not, or another place took the value.
func TestValueLearnt(t *testing.T) {
	var x api.Table
	for n, c := range []struct {
		pc, v uint32
		next  uint32
		ok    bool
	}{
		{40, top - 2, 0, false},
		{40, top, 0, false},
		{40, 1, 0, false},
		{40, 3, 5, true},
		{40, 5, 7, true},
		{40, 7, 9, true},
		{40, 8, 0, false},
		{40, 9, 0, false},
		{40, 10, 11, true},
		{72, 11, 0, false},
		{40, 11, 0, false},
		{40, 11, 0, false},
		{40, 11, 11, true},
	} {
		x = LearnValue(x, c.pc, c.v)
		if v, ok := Value(x, 40); v != c.next || ok != c.ok {
			t.Errorf("behind %d: %d %v, not %d %v", n, v, ok, c.next, c.ok)
		}
		for _, pc := range []uint32{8, 41, 44, 72} {
			if v, ok := Value(x, pc); v != 0 || ok {
				t.Errorf("behind %d, pc %d: %d %v", n, pc, v, ok)
			}
		}
	}
}

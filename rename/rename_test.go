package rename

import (
	"math"
	"slices"
	"strconv"
	"testing"

	"humpyard/api"
)

// ends are numbers that no register has.
var ends = []int{math.MinInt, math.MinInt32, -2, -1, api.MaxPhys, api.MaxPhys + 1, 1 << 32, math.MaxInt32, math.MaxInt}

// made answers a map in which register r is in p(r), with what is free as it is handed in.
func made(phys int, p func(r int) int, free ...int) api.Map {
	m := api.Map{Phys: phys, Free: free}
	for r := range m.Regs {
		m.Regs[r] = p(r)
	}
	return m
}

func own(r int) int      { return r }
func mirrored(r int) int { return 35 - r }

// with answers a map with another register r.
func with(m api.Map, r, p int) api.Map {
	m.Regs[r] = p
	return m
}

// freed answers a map with another Free.
func freed(m api.Map, free ...int) api.Map {
	m.Free = free
	return m
}

func same(a, b api.Map) bool {
	return a.Phys == b.Phys && a.Regs == b.Regs && slices.Equal(a.Free, b.Free)
}

// behindEnd is what lies behind the end of a Free that has room: a number that could be taken for one that is free, and one that could not.
var behindEnd = []int{33, math.MinInt}

// roomy answers the map with a Free that has room behind its end, and all of that list.
func roomy(m api.Map) (api.Map, []int) {
	all := slices.Concat(m.Free, behindEnd)
	m.Free = all[:len(m.Free)]
	return m, all
}

// asked has what one call answered, or was to answer; p and old are 0 where the call has none.
type asked struct {
	m      api.Map
	p, old int
	ok     bool
}

// ask makes a call three times: with the map as it stands, with room behind its Free's end, and once more; the answers are the same, share no memory with what was handed in nor with each other, and that is as it was.
func ask(t *testing.T, name string, m api.Map, call func(api.Map) asked, want asked) {
	t.Helper()
	wide, all := roomy(m)
	was, wasAll := freed(m, slices.Clone(m.Free)...), slices.Clone(all)
	got := []asked{call(m), call(wide), call(wide)}
	for n, g := range got {
		if !same(g.m, want.m) || g.p != want.p || g.old != want.old || g.ok != want.ok {
			t.Errorf("%s, call %d of %+v: %+v, not %+v", name, n, m, g, want)
		}
		if g.ok && !May(g.m) {
			t.Errorf("%s, call %d of %+v: %+v may not be", name, n, m, g)
		}
	}
	for n, g := range got {
		keep := slices.Clone(want.m.Free)
		if !slices.Equal(g.m.Free, keep) {
			t.Errorf("%s, call %d of %+v: another answer's memory", name, n, m)
		}
		full := g.m.Free[:cap(g.m.Free)]
		for k := range full {
			full[k] = -9
		}
	}
	if !same(m, was) || !slices.Equal(all, wasAll) || len(wide.Free) != len(was.Free) {
		t.Errorf("%s: what was handed in is not as it was: %+v %v, not %+v %v", name, m, all, was, wasAll)
	}
}

func take(rd int) func(api.Map) asked {
	return func(m api.Map) asked {
		n, p, old, ok := Take(m, rd)
		return asked{n, p, old, ok}
	}
}

func give(p int) func(api.Map) asked {
	return func(m api.Map) asked {
		n, ok := Give(m, p)
		return asked{m: n, ok: ok}
	}
}

func undo(rd, old int) func(api.Map) asked {
	return func(m api.Map) asked {
		n, ok := Undo(m, rd, old)
		return asked{m: n, ok: ok}
	}
}

// good are maps that may be; of most of them some numbers are neither one of Regs nor Free.
func good() map[string]api.Map {
	return map[string]api.Map{
		"least":          made(33, own, 32),
		"least, nil":     made(33, own),
		"least, empty":   freed(made(33, own), []int{}...),
		"one idle":       made(34, own, 33),
		"all free":       made(36, own, 32, 33, 34, 35),
		"falling":        made(36, own, 35, 34, 33, 32),
		"mixed":          made(40, mirrored, 2, 39, 0, 37),
		"none free":      made(40, mirrored),
		"0 is elsewhere": made(34, func(r int) int { return r + 2 }, 1),
		"the greatest":   made(api.MaxPhys, func(r int) int { return api.MaxPhys - 1 - r }, 0, 63, 31),
		"0 last":         made(api.MaxPhys, func(r int) int { return 95 - 3*r }, 1, 90, 0),
	}
}

// bad are maps that may not be.
func bad() map[string]api.Map {
	m := made(40, mirrored, 2, 39, 0, 37)
	out := map[string]api.Map{
		"empty":                    {},
		"Phys alone":               {Phys: 40},
		"Phys 32":                  made(32, own),
		"Phys 32, one free":        made(32, own, 32),
		"Phys above the greatest":  made(api.MaxPhys+1, own, 32),
		"Phys less than Regs":      made(33, mirrored),
		"first and last of Regs":   with(m, 0, m.Regs[31]),
		"neighbours of Regs":       with(m, 16, m.Regs[17]),
		"twice in Free":            freed(m, 2, 39, 2),
		"twice in Free, beside":    freed(m, 39, 2, 2),
		"thrice in Free":           freed(m, 2, 2, 2),
		"in both, first and last":  freed(m, 2, m.Regs[0]),
		"in both, last and first":  freed(m, m.Regs[31], 2),
		"in both, alone":           freed(m, m.Regs[7]),
		"Phys in Regs, first":      with(m, 0, 40),
		"Phys in Regs, last":       with(m, 31, 40),
		"Phys in Free, first":      freed(m, 40, 2),
		"Phys in Free, last":       freed(m, 2, 40),
		"Phys is least, in Free":   made(33, own, 33),
		"Phys is greatest, above":  made(api.MaxPhys, own, api.MaxPhys),
		"Phys is greatest, in Reg": with(made(api.MaxPhys, own, 60), 9, api.MaxPhys),
		"Free as long as Phys":     made(34, own, slices.Repeat([]int{32, 33}, 17)...),
		"Free longer than Phys":    made(34, own, slices.Repeat([]int{32, 33}, 18)...),
		"Free much too long":       made(api.MaxPhys, own, slices.Repeat([]int{32, 33, -5, 99}, 5000)...),
		"one more than there are":  made(33, own, 32, 31),
	}
	for _, n := range []int{math.MinInt, -1, 0, 1, 31, math.MaxInt} {
		x := m
		x.Phys = n
		out["Phys "+strconv.Itoa(n)] = x
	}
	for _, n := range ends {
		out[strconv.Itoa(n)+" in Regs, first"] = with(m, 0, n)
		out[strconv.Itoa(n)+" in Regs, last"] = with(m, 31, n)
		out[strconv.Itoa(n)+" in Free, first"] = freed(m, n, 2)
		out[strconv.Itoa(n)+" in Free, last"] = freed(m, 2, n)
	}
	return out
}

// TestMay: G1: Phys from 33 to MaxPhys, all numbers different and from 0 to below Phys; and the map is left as it was.
func TestMay(t *testing.T) {
	for want, maps := range map[bool]map[string]api.Map{true: good(), false: bad()} {
		for name, m := range maps {
			wide, all := roomy(m)
			was, wasAll := freed(m, slices.Clone(m.Free)...), slices.Clone(all)
			if May(m) != want || May(wide) != want {
				t.Errorf("%s: %v %v, not %v: %+v", name, May(m), May(wide), want, m)
			}
			if !same(m, was) || !slices.Equal(all, wasAll) {
				t.Errorf("%s: what was handed in is not as it was", name)
			}
		}
	}
}

// TestMayEachPhys: G1: each Phys from 33 to MaxPhys may be, and none beside them.
func TestMayEachPhys(t *testing.T) {
	for phys := -2; phys <= 2*api.MaxPhys; phys++ {
		want := phys >= 33 && phys <= api.MaxPhys
		if May(made(phys, own)) != want || May(made(phys, own, phys-1)) != want {
			t.Errorf("Phys %d: not %v", phys, want)
		}
	}
}

// TestMayEachPair: G1: any two that are alike are found, wherever they stand.
func TestMayEachPair(t *testing.T) {
	m := made(40, mirrored, 2, 39, 0, 37)
	at := func(m *api.Map, n int) *int {
		if n < 32 {
			return &m.Regs[n]
		}
		return &m.Free[n-32]
	}
	for a := range 36 {
		for b := range 36 {
			x := freed(m, slices.Clone(m.Free)...)
			*at(&x, a) = *at(&x, b)
			if May(x) != (a == b) {
				t.Errorf("the one at %d is that at %d: %v", a, b, May(x))
			}
		}
	}
}

// TestNew: G1: Regs 0 to 31 in order, Free all others, rising.
func TestNew(t *testing.T) {
	for phys := 33; phys <= api.MaxPhys; phys++ {
		want := made(phys, own)
		for p := 32; p < phys; p++ {
			want.Free = append(want.Free, p)
		}
		m, e := New(phys)
		if e != api.OK || !same(m, want) || !May(m) {
			t.Errorf("%d: %+v %d, not %+v", phys, m, e, want)
		}
		m.Free[0] = -9
		if n, _ := New(phys); !same(n, want) {
			t.Errorf("%d: two answers share memory", phys)
		}
	}
}

// TestNewWrong: G1 and P2: ErrRange, and nothing else, where phys is not from 33 to MaxPhys.
func TestNewWrong(t *testing.T) {
	for _, phys := range []int{math.MinInt, math.MinInt32, -33, -1, 0, 1, 31, 32, api.MaxPhys + 1, api.MaxPhys + 2, 1<<32 + 33, math.MaxInt32, math.MaxInt} {
		m, e := New(phys)
		if e != api.ErrRange || !same(m, api.Map{}) {
			t.Errorf("%d: %+v %d", phys, m, e)
		}
	}
}

// TestTake: G2: rd is in the first one that was free; the others are free in the order that they were; that one and the one that it was in.
func TestTake(t *testing.T) {
	for name, m := range good() {
		if len(m.Free) == 0 {
			continue
		}
		for rd := 1; rd <= 31; rd++ {
			want := freed(with(m, rd, m.Free[0]), slices.Clone(m.Free[1:])...)
			ask(t, name, m, take(rd), asked{want, m.Free[0], m.Regs[rd], true})
		}
	}
	m := made(40, mirrored, 2, 39, 0, 37)
	ask(t, "mixed", m, take(5), asked{freed(with(m, 5, 2), 39, 0, 37), 2, 30, true})
	ask(t, "one alone", freed(m, 3), take(31), asked{freed(with(m, 31, 3)), 3, 4, true})
}

// TestTakeWrong: G2: an empty map, 0s and false: rd is not from 1 to 31, nothing is free, the map may not be.
func TestTakeWrong(t *testing.T) {
	for name, m := range good() {
		for _, rd := range append([]int{0, 32, 33}, ends...) {
			ask(t, name+", rd", m, take(rd), asked{})
		}
		for _, rd := range []int{1, 2, 30, 31} {
			ask(t, name+", none free", freed(m), take(rd), asked{})
		}
	}
	for name, m := range bad() {
		for _, rd := range []int{-1, 0, 1, 16, 31, 32} {
			ask(t, name, m, take(rd), asked{})
		}
	}
}

// TestTakeAll: G2 and G3: all that are free are taken, in order, and then none is.
func TestTakeAll(t *testing.T) {
	m, _ := New(36)
	for n := range 4 {
		x, p, old, ok := Take(m, 7)
		if !ok || p != 32+n || x.Regs[7] != p || old != m.Regs[7] || !May(x) {
			t.Fatal(n, x, p, old, ok)
		}
		m = x
	}
	ask(t, "none left", m, take(7), asked{})
}

// idleOf answers the numbers of a map that are none of its Regs and not Free.
func idleOf(m api.Map) []int {
	var out []int
	for p := range m.Phys {
		if !slices.Contains(m.Regs[:], p) && !slices.Contains(m.Free, p) {
			out = append(out, p)
		}
	}
	return out
}

// busyOf answers those that are, and those that are no number of the map.
func busyOf(m api.Map) []int {
	return slices.Concat(m.Regs[:], m.Free, []int{m.Phys, m.Phys + 1}, ends)
}

// TestGive: G2: p is the last one of Free.
func TestGive(t *testing.T) {
	many := 0
	for name, m := range good() {
		for _, p := range idleOf(m) {
			many++
			ask(t, name, m, give(p), asked{m: freed(m, slices.Concat(m.Free, []int{p})...), ok: true})
		}
	}
	if many < 20 {
		t.Error("too few are idle:", many)
	}
	m := made(40, mirrored, 2, 39, 0, 37)
	ask(t, "mixed", m, give(1), asked{m: freed(m, 2, 39, 0, 37, 1), ok: true})
	ask(t, "0", freed(m, 2), give(0), asked{m: freed(m, 2, 0), ok: true})
	ask(t, "the last number", freed(m, 2), give(39), asked{m: freed(m, 2, 39), ok: true})
	ask(t, "none free", freed(m), give(3), asked{m: freed(m, 3), ok: true})
}

// TestGiveWrong: G2: an empty map and false: p is one of Regs, is free, is no number of the map; the map may not be.
func TestGiveWrong(t *testing.T) {
	for name, m := range good() {
		for _, p := range busyOf(m) {
			ask(t, name, m, give(p), asked{})
		}
	}
	for name, m := range bad() {
		for p := -1; p <= api.MaxPhys; p++ {
			ask(t, name, m, give(p), asked{})
		}
	}
}

// TestUndo: G2: what rd was in is the first one of Free, and rd is in old.
func TestUndo(t *testing.T) {
	for name, m := range good() {
		for _, old := range idleOf(m) {
			for rd := 1; rd <= 31; rd++ {
				want := freed(with(m, rd, old), slices.Concat([]int{m.Regs[rd]}, m.Free)...)
				ask(t, name, m, undo(rd, old), asked{m: want, ok: true})
			}
		}
	}
	m := made(40, mirrored, 2, 39, 0, 37)
	ask(t, "mixed", m, undo(5, 1), asked{m: freed(with(m, 5, 1), 30, 2, 39, 0, 37), ok: true})
	ask(t, "0", freed(m, 2), undo(1, 0), asked{m: freed(with(m, 1, 0), 34, 2), ok: true})
	ask(t, "the last number", freed(m, 2), undo(31, 39), asked{m: freed(with(m, 31, 39), 4, 2), ok: true})
	ask(t, "none free", freed(m), undo(2, 3), asked{m: freed(with(m, 2, 3), 33), ok: true})
}

// TestUndoWrong: G2: an empty map and false: rd is not from 1 to 31, old is one of Regs (rd's own too), is free, is no number of the map; the map may not be.
func TestUndoWrong(t *testing.T) {
	for name, m := range good() {
		for _, rd := range append([]int{0, 32, 33}, ends...) {
			for p := -1; p <= m.Phys; p++ {
				ask(t, name+", rd", m, undo(rd, p), asked{})
			}
		}
		for _, old := range busyOf(m) {
			for _, rd := range []int{1, 2, 17, 30, 31} {
				ask(t, name, m, undo(rd, old), asked{})
			}
		}
	}
	for name, m := range bad() {
		for p := -1; p <= api.MaxPhys; p++ {
			for _, rd := range []int{0, 1, 31} {
				ask(t, name, m, undo(rd, p), asked{})
			}
		}
	}
}

// TestUndoOfTake: G3: Undo of what Take has made is the map that it was made of.
func TestUndoOfTake(t *testing.T) {
	for name, m := range good() {
		if len(m.Free) == 0 {
			continue
		}
		for _, x := range []api.Map{m, freed(m, m.Free[0])} {
			for rd := 1; rd <= 31; rd++ {
				n, _, old, ok := Take(x, rd)
				if !ok {
					t.Fatal(name, rd)
				}
				ask(t, name, n, undo(rd, old), asked{m: x, ok: true})
			}
		}
	}
}

// TestUndoOfMany: G3: what was taken is undone, the last one first, back to where it began; also where one register was taken more than once.
func TestUndoOfMany(t *testing.T) {
	m, _ := New(50)
	type step struct {
		m       api.Map
		rd, old int
	}
	var steps []step
	for n := range 18 {
		rd := 1 + n*n%31
		x, _, old, ok := Take(m, rd)
		if !ok {
			t.Fatal(n)
		}
		steps = append(steps, step{m, rd, old})
		m = x
	}
	for _, s := range slices.Backward(steps) {
		x, ok := Undo(m, s.rd, s.old)
		if !ok || !same(x, s.m) {
			t.Fatalf("%+v %v, not %+v", x, ok, s.m)
		}
		m = x
	}
}

// TestNeverTwice: G3: whatever is taken, given and undone, each number stands at one place: in Regs, in Free, or with what is under way.
func TestNeverTwice(t *testing.T) {
	for _, phys := range []int{33, 34, 40, api.MaxPhys} {
		m, _ := New(phys)
		type taken struct{ rd, old int }
		var way []taken
		seed := uint32(phys)
		for range 4000 {
			seed = seed*1664525 + 1013904223
			rd, what := 1+int(seed>>8%31), seed>>20%8
			x, ok := m, true
			switch {
			case what < 4:
				var old int
				x, _, old, ok = Take(m, rd)
				if ok != (len(m.Free) > 0) {
					t.Fatalf("Take of %+v: %v", m, ok)
				}
				if ok {
					way = append(way, taken{rd, old})
				}
			case len(way) == 0:
			case what < 6:
				x, ok = Give(m, way[0].old)
				way = way[1:]
				if !ok {
					t.Fatalf("Give of %+v", m)
				}
			default:
				w := way[len(way)-1]
				x, ok = Undo(m, w.rd, w.old)
				way = way[:len(way)-1]
				if !ok {
					t.Fatalf("Undo of %+v", m)
				}
			}
			if !ok {
				continue
			}
			m = x
			if !May(m) || len(m.Free)+len(way)+32 != phys {
				t.Fatalf("%+v, %d under way", m, len(way))
			}
		}
	}
}

package core

import (
	"humpyard/api"
	"humpyard/decode"
	"humpyard/guess"
	"humpyard/hart"
	"humpyard/mem"
	"humpyard/order"
	"humpyard/rename"
	"humpyard/window"
)

// What is done about what a load gives, ahead of its word: by what was learnt, nothing, or anything.
const (
	asLearnt = iota
	noGuess
	anyGuess
	guesses
)

// take takes in instructions, while there is room for them.
func (r *core) take() {
	for range r.Wide {
		if !r.open || !r.takeOne() {
			return
		}
	}
}

func (r *core) takeOne() bool {
	slots, ok := window.Push(r.slots, r.Window, r.Taken)
	if !ok {
		return false
	}
	o := doing{seq: r.Taken, pc: r.from}
	ins, cause := r.read(o.seq)
	o.ins, o.rd = ins, gives(ins)
	if o.rd != 0 && len(r.names.Free) == 0 {
		return false
	}
	r.slots = slots
	r.Taken++
	r.ask(o)
	r.name(&o)
	if cause != 0 {
		r.stop(&o, cause)
	} else {
		r.guess(&o)
	}
	r.under = append(r.under, o)
	return true
}

// read answers the instruction that is next, as one of that Seq finds it behind the stores that are under way; or why there is none.
func (r *core) read(seq int) (api.Ins, int) {
	w, ok, _ := order.See(r.asked, r.Memory, seq, r.from, 4)
	if !ok {
		return api.Ins{}, api.CauseFetch
	}
	i, ok := decode.Decode(w)
	if !ok {
		return api.Ins{}, api.CauseWord
	}
	return i, 0
}

// ask notes what an instruction has to do with memory. Its own word is a load that is over, so that a store into it, ahead of it, tells that it was read too early.
func (r *core) ask(o doing) {
	r.asked = append(r.asked, api.Access{Seq: o.seq, Known: true, At: o.pc, Many: 4, Done: true})
	if stores(o.ins) {
		r.asked = append(r.asked, api.Access{Seq: o.seq, Store: true})
	}
}

// name puts physical registers in place of those that an instruction names.
func (r *core) name(o *doing) {
	first, second := hart.Reads(o.ins)
	o.a, o.b = r.names.Regs[first], r.names.Regs[second]
	if o.rd != 0 {
		r.names, o.to, o.old, _ = rename.Take(r.names, o.rd)
		r.there[o.to] = false
	}
}

// stop: where no instruction is, nothing is known of what comes behind it.
func (r *core) stop(o *doing, cause int) {
	o.state, o.does = done, hart.Trap(o.pc, cause)
	r.slots, _ = window.Done(r.slots, o.seq)
	r.open = false
}

// guess goes on where an instruction seems to lead, with what it seems to load.
func (r *core) guess(o *doing) {
	o.next = r.way(*o)
	r.from = o.next
	if mem.Loads(o.ins.Op) == 0 {
		return
	}
	n := r.choose()
	o.late = int(n % (api.MaxLate + 1))
	n /= api.MaxLate + 1
	o.careful = n%2 == 1
	v, ok := r.value(o.pc, n/2)
	if ok && o.rd != 0 {
		o.guessed = true
		r.words[o.to], r.there[o.to] = v, true
	}
}

// way answers where the program is guessed to go on behind an instruction: by what was learnt, or, by choice, against it.
func (r *core) way(o doing) uint32 {
	behind, there := o.pc+4, o.pc+uint32(o.ins.Imm)
	if o.ins.Op == api.JAL {
		return there
	}
	if !turns(o.ins) {
		return behind
	}
	taken, target := guess.Branch(r.learnt, o.pc)
	if r.choose()%2 == 1 {
		taken = !taken
	}
	switch {
	case !taken:
		return behind
	case o.ins.Op == api.JALR:
		return target
	}
	return there
}

// value answers what the load at pc is guessed to give, and whether anything is.
func (r *core) value(pc uint32, n uint) (uint32, bool) {
	switch n % guesses {
	case noGuess:
		return 0, false
	case anyGuess:
		return uint32(n), true
	}
	return guess.Value(r.learnt, pc)
}

// choose answers the next of the script's numbers; 0, where none is left.
func (r *core) choose() uint {
	if len(r.script) == 0 {
		return 0
	}
	n := r.script[0]
	r.script = r.script[1:]
	return uint(n)
}

// gives answers the register that an instruction gives a word: FENCE has an Rd, but does not.
func gives(i api.Ins) int {
	if i.Op == api.FENCE {
		return 0
	}
	return i.Rd
}

func stores(i api.Ins) bool { return i.Op >= api.SB && i.Op <= api.SW }

// turns says whether it is not told till an instruction is done where the program goes on behind it.
func turns(i api.Ins) bool { return i.Op >= api.JALR && i.Op <= api.BGEU }

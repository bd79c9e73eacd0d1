package core

import (
	"slices"

	"humpyard/api"
	"humpyard/rename"
)

// States of an instruction that is under way.
const (
	waits = iota // for the words of its registers
	loads        // for its word of memory
	done
)

// doing is an instruction that is under way.
type doing struct {
	seq     int
	pc      uint32
	ins     api.Ins
	state   int
	a, b    int    // the physical registers that it reads
	rd      int    // the register that it gives a word; 0: none
	to, old int    // the physical registers that rd is in behind it, and was in ahead of it
	next    uint32 // where the program was guessed to go on
	guessed bool   // whether the word in to is a guess
	late    int    // for how many cycles it still waits for its word of memory
	careful bool   // whether it waits for all stores ahead of it, too
	does    api.Commit
}

// core is a core at work.
type core struct {
	api.Config
	api.Shown
	learnt api.Table
	names  api.Map
	words  [api.MaxPhys]uint32
	there  [api.MaxPhys]bool // whether a physical register has its word, or a guess of it
	slots  []api.Slot
	under  []doing      // what the slots are of, one by one
	asked  []api.Access // of what is under way; a word that was read as an instruction is a load, too
	script []int        // the choices that are left
	from   uint32       // where the next instruction is taken in
	open   bool         // whether there is a next one, as far as is known
}

// begin answers a core ahead of its first cycle.
func begin(c api.Config, h api.Hart, memory []byte, script []int) *core {
	r := &core{Config: c, script: script, from: h.PC, open: true}
	r.Hart, r.Memory = h, slices.Concat(memory)
	r.names, _ = rename.New(r.Phys)
	for n, w := range h.Regs {
		p := r.names.Regs[n]
		r.words[p], r.there[p] = w, true
	}
	return r
}

// cycle begins at the end of an instruction's way, so that none does two parts of it in one cycle.
func (r *core) cycle() {
	r.Cycles++
	r.commit()
	if r.Hart.State == api.Runs {
		r.load()
		r.start()
		r.take()
	}
}

// find answers where an instruction stands among those that are under way; -1: it is none of them any more.
func (r *core) find(seq int) int {
	return slices.IndexFunc(r.under, func(o doing) bool { return o.seq == seq })
}

// all answers the Seqs of the instructions of which something is so, the eldest ahead. Doing one may take others back: they are to be found again one by one.
func (r *core) all(so func(doing) bool) []int {
	var seqs []int
	for _, o := range r.under {
		if so(o) {
			seqs = append(seqs, o.seq)
		}
	}
	return seqs
}

package core

import (
	"slices"

	"humpyard/api"
	"humpyard/guess"
	"humpyard/hart"
	"humpyard/mem"
	"humpyard/rename"
	"humpyard/window"
)

// pace: one commit is kept back for each so many cycles that may still come.
const pace = 30

// commit ends what is done, the eldest ahead.
func (r *core) commit() {
	slots, seqs := window.Pop(r.slots, min(r.Wide, r.left()))
	for n := range seqs {
		r.commitOne(r.under[n])
	}
	r.slots, r.under = slots, r.under[len(seqs):]
	r.asked = slices.DeleteFunc(r.asked, func(a api.Access) bool { return slices.Contains(seqs, a.Seq) })
}

// left answers how many may still be committed by now. model.Run tells no more than MaxSteps, so there can't be more in all; as something is to be committed in every 60 cycles, they must not be used up ahead of MaxCycles.
func (r *core) left() int {
	return api.MaxSteps - len(r.Commits) - (api.MaxCycles-r.Cycles)/pace
}

func (r *core) commitOne(o doing) {
	c := o.does
	r.Commits = append(r.Commits, c)
	r.Hart = hart.Behind(r.Hart, c)
	if c.Many > 0 {
		r.Memory, _ = mem.Store(r.Memory, o.ins.Op, c.At, c.Data)
	}
	if o.rd != 0 {
		r.names, _ = rename.Give(r.names, o.old)
	}
	r.learn(o)
}

// learn keeps what is to be guessed by the next time: of what is committed alone, as nothing of it is taken back.
func (r *core) learn(o doing) {
	c := o.does
	if turns(o.ins) {
		taken := o.ins.Op == api.JALR || c.Next != o.pc+4
		r.learnt = guess.LearnBranch(r.learnt, o.pc, taken, c.Next)
	}
	if mem.Loads(o.ins.Op) > 0 && c.Rd != 0 {
		r.learnt = guess.LearnValue(r.learnt, o.pc, c.Value)
	}
}

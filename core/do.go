package core

import (
	"slices"

	"humpyard/api"
	"humpyard/hart"
	"humpyard/mem"
	"humpyard/order"
	"humpyard/rename"
	"humpyard/window"
)

// start begins instructions whose words are there. The eldest of them is always the first one, so that choices can't hold up for ever what all others wait for.
func (r *core) start() {
	ready := r.all(func(o doing) bool { return o.state == waits && r.there[o.a] && r.there[o.b] })
	if len(ready) > 1 && r.choose()%2 == 1 {
		slices.Reverse(ready[1:])
	}
	for _, seq := range ready[:min(len(ready), r.Wide)] {
		if n := r.find(seq); n >= 0 {
			r.startOne(n)
		}
	}
}

func (r *core) startOne(n int) {
	o := r.under[n]
	if mem.Loads(o.ins.Op) > 0 {
		r.under[n].state = loads
		return
	}
	r.finish(n, hart.Do(o.ins, o.pc, r.words[o.a], r.words[o.b], r.Memory))
}

// load goes on with the loads that wait for their words.
func (r *core) load() {
	for _, seq := range r.all(func(o doing) bool { return o.state == loads }) {
		n := r.find(seq)
		if n < 0 {
			continue
		}
		if r.under[n].late > 0 {
			r.under[n].late--
		} else {
			r.loadOne(n)
		}
	}
}

func (r *core) loadOne(n int) {
	o := r.under[n]
	at, many := r.words[o.a]+uint32(o.ins.Imm), int(mem.Loads(o.ins.Op))
	w, ok, sure := order.See(r.asked, r.Memory, o.seq, at, many)
	if ok && !sure && o.careful {
		return
	}
	if ok {
		r.asked = append(r.asked, api.Access{Seq: o.seq, Known: true, At: at, Many: many, Done: true})
	}
	r.finish(n, hart.Loaded(o.ins, o.pc, extended(o.ins.Op, w), ok))
}

// extended answers what the load op makes of the bytes that it has seen.
func extended(op int, seen uint32) uint32 {
	w, _ := mem.Load([]byte{byte(seen), byte(seen >> 8), byte(seen >> 16), byte(seen >> 24)}, op, 0)
	return w
}

// finish takes back what went by guesses that an instruction, now that it is done, shows to be wrong. One that halts or traps stays where it is, and is never guessed to: nothing is left behind it.
func (r *core) finish(n int, c api.Commit) {
	o := r.under[n]
	r.under[n].state, r.under[n].does = done, c
	r.slots, _ = window.Done(r.slots, o.seq)
	if stores(o.ins) {
		r.settle(o.seq, c)
	}
	if right := r.fill(o, c); !right || c.Next != o.next {
		r.back(o.seq+1, c.Next)
		r.open = c.State == api.Runs
	}
}

// fill gives an instruction's register its word, and answers whether that is what it was guessed to be.
func (r *core) fill(o doing, c api.Commit) bool {
	if c.Rd == 0 {
		return true
	}
	right := !o.guessed || r.words[o.to] == c.Value
	r.words[o.to], r.there[o.to] = c.Value, true
	return right
}

// settle tells where a store is (one that traps is nowhere), and takes back what was loaded, or read as an instruction, without it.
func (r *core) settle(seq int, c api.Commit) {
	at := slices.IndexFunc(r.asked, func(a api.Access) bool { return a.Store && a.Seq == seq })
	r.asked[at] = api.Access{Seq: seq, Store: true, Known: true, At: c.At, Many: c.Many, Data: c.Data}
	if early, ok := order.Wrong(r.asked, seq); ok {
		r.back(early, r.under[r.find(early)].pc)
	}
}

// back takes back all from seq on, the last one first, and goes on at from.
func (r *core) back(seq int, from uint32) {
	slots, seqs := window.Cut(r.slots, seq)
	for _, s := range seqs {
		if o := r.under[r.find(s)]; o.rd != 0 {
			r.names, _ = rename.Undo(r.names, o.rd, o.old)
		}
	}
	r.slots = slots
	r.under = slices.DeleteFunc(r.under, func(o doing) bool { return o.seq >= seq })
	r.asked = slices.DeleteFunc(r.asked, func(a api.Access) bool { return a.Seq >= seq })
	if len(seqs) > 0 {
		r.Back++
	}
	r.from, r.open = from, true
}

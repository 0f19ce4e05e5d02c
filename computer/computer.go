// Package computer is a processor with its memory and its timer, cycle by cycle.
package computer

import "stylet/api"

type state uint8

const (
	fetching   state = iota // the next cycle begins an instruction
	addressing              // the mode says what the next cycle does
	accessing               // the address is known, and its byte is due
	restoring               // a change is due to write the byte as it was
	changing                // a change is due to write the new byte
	jammed
)

// Computer holds all by value, so that a copied one shares nothing.
type Computer struct {
	bus
	registers           // as they are in the midst of an instruction
	behind    registers // as they were behind the last one that is done

	state  state
	op     opcode
	step   int    // which cycle of its mode this is
	at     uint16 // the address that the mode gathers
	hop    uint16 // the address at which a mode finds that address
	data   byte   // the byte that the instruction is given, or gives
	taken  bool   // what a branch has found
	nmiOn  bool   // the line, in the last cycle
	nmiDue bool
	cycles int
}

// Start makes a zero Computer a fresh one; with an error it is none.
func (c *Computer) Start(config api.Config) api.Errno {
	if !valid(config) {
		return api.ErrConfig
	}
	c.fill(config)
	c.s = 0xfd
	c.p = always | noIRQ
	c.pc = join(c.look(resetVector), c.look(resetVector+1))
	c.behind = c.registers
	return api.OK
}

// Cycle does a cycle with the pins so, unless it has jammed.
func (c *Computer) Cycle(nmi, irq bool) (api.Bus, bool) {
	if c.Jammed() {
		return api.Bus{}, false
	}
	if nmi && !c.nmiOn {
		c.nmiDue = true
	}
	c.nmiOn = nmi
	done := c.turn(irq)
	if !done.Write || done.Addr != timerCount {
		c.timer.tick()
	}
	c.cycles++
	return done, true
}

// Regs tells the registers, as behind the last instruction that is done.
func (c *Computer) Regs() api.Regs {
	r := c.behind
	return api.Regs{
		A: int(r.a), X: int(r.x), Y: int(r.y), S: int(r.s), P: int(r.p), PC: int(r.pc),
		Cycles: c.cycles, Jam: c.Jammed(),
	}
}

// Peek tells a byte without a cycle.
func (c *Computer) Peek(at int) int { return int(c.look(uint16(at))) }

// Poke puts a byte into memory, Rom or not, and be it behind the timer.
func (c *Computer) Poke(at uint16, data byte) { c.memory[at] = data }

// Fetches says whether the next cycle is a fetch.
func (c *Computer) Fetches() bool { return c.state == fetching }

// Jammed says whether there are no more cycles.
func (c *Computer) Jammed() bool { return c.state == jammed }

func (c *Computer) turn(irq bool) api.Bus {
	switch c.state {
	case fetching:
		return c.fetch(irq)
	case accessing:
		return c.access()
	case restoring:
		return c.restore()
	case changing:
		return c.change()
	}
	c.step++
	return c.op.mode.method()(c)
}

// fetch asks for interrupts behind the read, because that read may be the one
// that stops the timer's call.
func (c *Computer) fetch(irq bool) api.Bus {
	b := c.read(c.pc)
	b.Fetch = true
	switch {
	case c.nmiDue:
		c.nmiDue = false
		c.begin(opcode{brk, nmiSequence})
	case (irq || c.timer.calls) && !c.has(noIRQ):
		c.begin(opcode{brk, irqSequence})
	default:
		c.pc++
		c.begin(decode(byte(b.Data)))
	}
	return b
}

func (c *Computer) begin(op opcode) {
	c.op = op
	c.step = 0
	c.state = addressing
	if op.mode == none {
		c.state = jammed
	}
}

// perform does what the instruction does, be it with c.data or c.at.
func (c *Computer) perform() { c.op.instruction.method()(c) }

// finish ends the instruction: only now Regs may tell what it did.
func (c *Computer) finish() {
	c.behind = c.registers
	c.state = fetching
}

func (c *Computer) performLast() {
	c.perform()
	c.finish()
}

func (c *Computer) access() api.Bus {
	switch c.op.instruction.kind() {
	case writes:
		c.performLast()
		return c.write(c.at, c.data)
	case changes:
		c.state = restoring
		return c.takeData(c.read(c.at))
	}
	b := c.takeData(c.read(c.at))
	c.performLast()
	return b
}

func (c *Computer) restore() api.Bus {
	c.state = changing
	return c.write(c.at, c.data)
}

func (c *Computer) change() api.Bus {
	c.performLast()
	return c.write(c.at, c.data)
}

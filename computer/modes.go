package computer

import "stylet/api"

type mode uint8

const (
	none mode = iota // first, so that an opcode that no table names has it
	imp
	acc
	imm
	zp
	zpx
	zpy
	abs
	abx
	aby
	izx
	izy
	rel
	jumpAbs
	jumpInd
	call
	callEnd
	push
	pull
	breakSequence
	nmiSequence
	irqSequence
	interruptEnd
)

// method gives what does one cycle of the mode, the one that c.step says.
func (m mode) method() func(*Computer) api.Bus {
	table := [...]func(*Computer) api.Bus{
		imp:           (*Computer).implied,
		acc:           (*Computer).accumulator,
		imm:           (*Computer).immediate,
		zp:            (*Computer).zeroPage,
		zpx:           (*Computer).zeroPageX,
		zpy:           (*Computer).zeroPageY,
		abs:           (*Computer).absolute,
		abx:           (*Computer).absoluteX,
		aby:           (*Computer).absoluteY,
		izx:           (*Computer).indirectX,
		izy:           (*Computer).indirectY,
		rel:           (*Computer).relative,
		jumpAbs:       (*Computer).jumpAbsolute,
		jumpInd:       (*Computer).jumpIndirect,
		call:          (*Computer).callSubroutine,
		callEnd:       (*Computer).leaveSubroutine,
		push:          (*Computer).pushByte,
		pull:          (*Computer).pullByte,
		breakSequence: (*Computer).enterByBreak,
		nmiSequence:   (*Computer).enterByNMI,
		irqSequence:   (*Computer).enterByIRQ,
		interruptEnd:  (*Computer).leaveInterrupt,
	}
	return table[m]
}

func (c *Computer) readNext() api.Bus {
	b := c.read(c.pc)
	c.pc++
	return b
}

func (c *Computer) takeData(b api.Bus) api.Bus {
	c.data = byte(b.Data)
	return b
}

func (c *Computer) takeLow(b api.Bus) api.Bus {
	c.at = join(byte(b.Data), 0)
	return b
}

func (c *Computer) takeHigh(b api.Bus) api.Bus {
	c.at = join(lowOf(c.at), byte(b.Data))
	return b
}

func (c *Computer) takeHop(b api.Bus) api.Bus {
	c.hop = join(byte(b.Data), 0)
	return b
}

func (c *Computer) stackTop() uint16 { return join(c.s, 1) }

func (c *Computer) pushed(data byte) api.Bus {
	b := c.write(c.stackTop(), data)
	c.s--
	return b
}

func (c *Computer) pulled() api.Bus {
	c.s++
	return c.read(c.stackTop())
}

func (c *Computer) implied() api.Bus {
	b := c.read(c.pc)
	c.performLast()
	return b
}

func (c *Computer) accumulator() api.Bus {
	b := c.read(c.pc)
	c.data = c.a
	c.perform()
	c.a = c.data
	c.finish()
	return b
}

func (c *Computer) immediate() api.Bus {
	b := c.takeData(c.readNext())
	c.performLast()
	return b
}

func (c *Computer) zeroPage() api.Bus {
	c.state = accessing
	return c.takeLow(c.readNext())
}

func (c *Computer) zeroPageX() api.Bus { return c.zeroPageBy(c.x) }
func (c *Computer) zeroPageY() api.Bus { return c.zeroPageBy(c.y) }

func (c *Computer) zeroPageBy(index byte) api.Bus {
	if c.step == 1 {
		return c.takeLow(c.readNext())
	}
	b := c.read(c.at)
	c.at = within(c.at, index)
	c.state = accessing
	return b
}

func (c *Computer) absolute() api.Bus {
	if c.step == 1 {
		return c.takeLow(c.readNext())
	}
	c.state = accessing
	return c.takeHigh(c.readNext())
}

func (c *Computer) absoluteX() api.Bus { return c.absoluteBy(c.x) }
func (c *Computer) absoluteY() api.Bus { return c.absoluteBy(c.y) }

func (c *Computer) absoluteBy(index byte) api.Bus {
	switch c.step {
	case 1:
		return c.takeLow(c.readNext())
	case 2:
		return c.takeHigh(c.readNext())
	}
	return c.indexed(index)
}

// indexed reads ahead of the carry: if there was none to wait for, a reading
// instruction has its byte already.
func (c *Computer) indexed(index byte) api.Bus {
	near := within(c.at, index)
	c.at += uint16(index)
	c.state = accessing
	if c.at == near && c.op.instruction.kind() == reads {
		return c.access()
	}
	return c.read(near)
}

func (c *Computer) indirectX() api.Bus {
	switch c.step {
	case 1:
		return c.takeHop(c.readNext())
	case 2:
		b := c.read(c.hop)
		c.hop = within(c.hop, c.x)
		return b
	case 3:
		return c.takeLow(c.read(c.hop))
	}
	c.state = accessing
	return c.takeHigh(c.read(within(c.hop, 1)))
}

func (c *Computer) indirectY() api.Bus {
	switch c.step {
	case 1:
		return c.takeHop(c.readNext())
	case 2:
		return c.takeLow(c.read(c.hop))
	case 3:
		return c.takeHigh(c.read(within(c.hop, 1)))
	}
	return c.indexed(c.y)
}

func (c *Computer) relative() api.Bus {
	switch c.step {
	case 1:
		b := c.readNext()
		c.at = c.pc + uint16(int8(b.Data))
		c.perform()
		if !c.taken {
			c.finish()
		}
		return b
	case 2:
		b := c.read(c.pc)
		if highOf(c.at) == highOf(c.pc) {
			c.branch()
		}
		return b
	}
	b := c.read(join(lowOf(c.at), highOf(c.pc)))
	c.branch()
	return b
}

func (c *Computer) branch() {
	c.pc = c.at
	c.finish()
}

package computer

import "stylet/api"

func (c *Computer) jumpAbsolute() api.Bus {
	if c.step == 1 {
		return c.takeLow(c.readNext())
	}
	return c.goThere(c.read(c.pc))
}

// goThere takes the higher byte of an address, which is all that was missing.
func (c *Computer) goThere(b api.Bus) api.Bus {
	c.takeHigh(b)
	c.performLast()
	return b
}

func (c *Computer) jumpIndirect() api.Bus {
	switch c.step {
	case 1:
		return c.takeLow(c.readNext())
	case 2:
		b := c.takeHigh(c.readNext())
		c.hop = c.at
		return b
	case 3:
		return c.takeLow(c.read(c.hop))
	}
	return c.goThere(c.read(within(c.hop, 1)))
}

func (c *Computer) callSubroutine() api.Bus {
	switch c.step {
	case 1:
		return c.takeLow(c.readNext())
	case 2:
		return c.read(c.stackTop())
	case 3:
		return c.pushed(highOf(c.pc))
	case 4:
		return c.pushed(lowOf(c.pc))
	}
	return c.goThere(c.read(c.pc))
}

func (c *Computer) leaveSubroutine() api.Bus {
	switch c.step {
	case 1:
		return c.read(c.pc)
	case 2:
		return c.read(c.stackTop())
	case 3:
		return c.takeLow(c.pulled())
	case 4:
		return c.takeHigh(c.pulled())
	}
	b := c.read(c.at)
	c.performLast()
	return b
}

func (c *Computer) leaveInterrupt() api.Bus {
	switch c.step {
	case 1:
		return c.read(c.pc)
	case 2:
		return c.read(c.stackTop())
	case 3:
		return c.takeData(c.pulled())
	case 4:
		return c.takeLow(c.pulled())
	}
	return c.goThere(c.pulled())
}

func (c *Computer) pushByte() api.Bus {
	if c.step == 1 {
		return c.read(c.pc)
	}
	c.perform()
	b := c.pushed(c.data)
	c.finish()
	return b
}

func (c *Computer) pullByte() api.Bus {
	switch c.step {
	case 1:
		return c.read(c.pc)
	case 2:
		return c.read(c.stackTop())
	}
	b := c.takeData(c.pulled())
	c.performLast()
	return b
}

func (c *Computer) enterByBreak() api.Bus {
	if c.step == 1 {
		return c.readNext()
	}
	return c.enter(irqVector, c.p|breaking)
}

func (c *Computer) enterByIRQ() api.Bus {
	if c.step == 1 {
		return c.read(c.pc)
	}
	return c.enter(irqVector, c.p)
}

func (c *Computer) enterByNMI() api.Bus {
	if c.step == 1 {
		return c.read(c.pc)
	}
	return c.enter(nmiVector, c.p)
}

// enter does the cycles that all three ways into an interrupt share.
func (c *Computer) enter(vector uint16, flags byte) api.Bus {
	switch c.step {
	case 2:
		return c.pushed(highOf(c.pc))
	case 3:
		return c.pushed(lowOf(c.pc))
	case 4:
		return c.pushed(flags)
	case 5:
		return c.takeLow(c.read(vector))
	}
	return c.goThere(c.read(vector + 1))
}

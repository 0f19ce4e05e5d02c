package stub

import (
	"stylet/api"
	"stylet/hex"
)

const (
	done     = "OK"
	unknown  = "E1"
	outside  = "E2"
	noRoom   = "E4"
	notThere = "E5"
)

const (
	maxTold         = 0x20 // bytes of memory in one reply
	maxRecordsTold  = 8
	maxInstructions = 0x0fff
)

// do does the command that the body is, and gives the reply.
func (s *Stub) do(body string) string {
	switch body {
	case "":
		return unknown
	case "g":
		return s.tellRegisters()
	case "q":
		return s.takeRecords()
	case "t0", "t1":
		s.recording = body == "t1"
		return done
	case "p0", "p1", "p2", "p3":
		s.nmi = body == "p1" || body == "p3"
		s.irq = body == "p2" || body == "p3"
		return done
	}
	numbers, ok := hex.Bytes(body[1:])
	if !ok || len(numbers) < 2 {
		return unknown
	}
	return s.doWith(body[0], uint16(numbers[0])<<8|uint16(numbers[1]), numbers[2:])
}

// doWith does a command whose letter is followed by four digits, or more.
func (s *Stub) doWith(letter byte, number uint16, more []byte) string {
	switch {
	case letter == 'w':
		return s.addPatch(number, more)
	case letter == 'm' && len(more) == 1:
		return s.tellMemory(int(number), int(more[0]))
	case len(more) > 0:
		return unknown
	}
	switch letter {
	case 'b':
		return s.breakpoints.add(number)
	case 'd':
		return s.breakpoints.remove(number)
	case 'v':
		return s.watches.add(number)
	case 'x':
		return s.watches.remove(number)
	case 's':
		return s.goOn(journey{left: int(number)})
	case 'i':
		return s.goInstructions(int(number))
	}
	return unknown
}

func (s *Stub) tellRegisters() string {
	regs := s.computer.Regs()
	var reply []byte
	for _, register := range [...]int{regs.A, regs.X, regs.Y, regs.S, regs.P} {
		reply = hex.Append(reply, register, 2)
	}
	reply = hex.Append(reply, regs.PC, 4)
	return string(hex.Append(reply, regs.Cycles, 8))
}

func (s *Stub) tellMemory(at, count int) string {
	if count < 1 || count > maxTold {
		return outside
	}
	var reply []byte
	for i := range count {
		reply = hex.Append(reply, s.computer.Peek(at+i), 2)
	}
	return string(reply)
}

func (s *Stub) takeRecords() string {
	var reply []byte
	for range min(s.records.count, maxRecordsTold) {
		reply = appendRecord(reply, s.records.take())
	}
	return string(reply)
}

func appendRecord(to []byte, bus api.Bus) []byte {
	to = hex.Append(to, bus.Addr, 4)
	to = hex.Append(to, bus.Data, 2)
	switch {
	case bus.Fetch:
		return append(to, 'f')
	case bus.Write:
		return append(to, 'w')
	}
	return append(to, 'r')
}

func (s *Stub) goInstructions(count int) string {
	if count > maxInstructions {
		return outside
	}
	return s.goOn(journey{left: count, whole: true})
}

package stub

import (
	"stylet/api"
	"stylet/hex"
)

// reason is why it does not go on; replies tell its number.
type reason uint8

const (
	allDone reason = iota
	atBreakpoint
	watched
	hasJammed
	recordsFull
)

// journey is how far a command that goes on has come.
type journey struct {
	left   int  // cycles, or instructions, that are still to be done
	whole  bool // they are instructions
	cycles int  // that were done
}

func (s *Stub) goOn(j journey) string {
	for {
		if why, ends := s.look(j); ends {
			return j.tell(why)
		}
		bus := s.cycle()
		j.cycles++
		if !j.whole || s.between() {
			j.left--
		}
		if s.watches.has(uint16(bus.Addr)) {
			return j.tell(watched)
		}
	}
}

// look says whether no cycle is to be done, and why.
func (s *Stub) look(j journey) (reason, bool) {
	switch {
	case j.left == 0:
		return allDone, true
	case j.cycles > 0 && s.meetsBreakpoint():
		return atBreakpoint, true
	case s.computer.Jammed():
		return hasJammed, true
	case s.recording && s.records.full():
		return recordsFull, true
	}
	return 0, false
}

func (s *Stub) meetsBreakpoint() bool {
	return s.computer.Fetches() && s.breakpoints.has(uint16(s.computer.Regs().PC))
}

// between says that no instruction is under way.
func (s *Stub) between() bool { return s.computer.Fetches() || s.computer.Jammed() }

func (s *Stub) cycle() api.Bus {
	bus, _ := s.computer.Cycle(s.nmi, s.irq)
	if s.recording {
		s.records.put(bus)
	}
	s.settle()
	return bus
}

func (j journey) tell(why reason) string {
	reply := []byte{'T', '0' + byte(why)}
	return string(hex.Append(reply, j.cycles, 6))
}

// Package stylet: a small computer, and a wire to look into it: see DOC.md.
package stylet

import (
	"stylet/api"
	"stylet/computer"
	"stylet/stub"
	"stylet/wire"
)

// Machine is a computer.
type Machine struct{ computer computer.Computer }

// New makes one (P2).
func New(c api.Config) (*Machine, api.Errno) {
	m := &Machine{}
	if e := m.computer.Start(c); e != api.OK {
		return nil, e
	}
	return m, api.OK
}

// Cycle does a cycle (P3).
func (m *Machine) Cycle(nmi bool, irq bool) (api.Bus, bool) { return m.computer.Cycle(nmi, irq) }

// Regs tells the registers (P4).
func (m *Machine) Regs() api.Regs { return m.computer.Regs() }

// Peek tells a byte (P4).
func (m *Machine) Peek(at int) int { return m.computer.Peek(at) }

// Frame gives a packet's bytes (P5).
func Frame(seq int, body string) ([]byte, api.Errno) { return wire.Frame(seq, body) }

// Scan scans bytes for packets.
type Scan struct{ scanner wire.Scanner }

// NewScan makes one (P6).
func NewScan() *Scan { return &Scan{} }

// Feed scans bytes (P6).
func (s *Scan) Feed(b []byte) []api.Packet { return s.scanner.Feed(b) }

// Stub is a stub, with a computer.
type Stub struct{ stub stub.Stub }

// NewStub makes one (P2).
func NewStub(c api.Config) (*Stub, api.Errno) {
	s := &Stub{}
	if e := s.stub.Start(c); e != api.OK {
		return nil, e
	}
	return s, api.OK
}

// Feed does what bytes ask for (P7).
func (s *Stub) Feed(b []byte) []byte { return s.stub.Feed(b) }

package stylet_test

import (
	"math"
	"testing"

	"stylet/api"
)

func TestP4RegsAtFirst(t *testing.T) {
	m := newMachine(t, api.Config{})
	checkRegs(t, "no memory", m, api.Regs{S: 0xfd, P: 0x24})
	m = newMachine(t, config(0, chunk(0xfffc, 0x34, 0x12)))
	checkRegs(t, "the start", m, api.Regs{S: 0xfd, P: 0x24, PC: 0x1234})
	checkCycles(t, "is no cycle", m, "f1234:00")
}

func TestP4RegsWithinInstructions(t *testing.T) {
	// LDX #$80, PHA, INC $10, JSR $300; that jams
	m := boot(t, []byte{0xa2, 0x80, 0x48, 0xe6, 0x10, 0x20, 0x00, 0x03}, chunk(0x300, 0x02))
	want := api.Regs{S: 0xfd, P: 0x24, PC: 0x200}
	at := func(what string, cycles int, change func()) {
		t.Helper()
		for range cycles - 1 {
			run(m, 1)
			want.Cycles++
			checkRegs(t, "within "+what, m, want)
		}
		run(m, 1)
		want.Cycles++
		change()
		checkRegs(t, "behind "+what, m, want)
	}
	at("LDX", 2, func() { want.X, want.P, want.PC = 0x80, 0xa4, 0x202 })
	at("PHA", 3, func() { want.S, want.PC = 0xfc, 0x203 })
	at("INC", 5, func() { want.P, want.PC = 0x24, 0x205 })
	at("JSR", 6, func() { want.S, want.PC = 0xfa, 0x300 })
	at("what jams", 1, func() { want.Jam = true })
	run(m, 5)
	checkRegs(t, "long behind", m, want)
}

func TestP4RegsWithinSequences(t *testing.T) {
	m := boot(t, nops)
	want := api.Regs{S: 0xfd, P: 0x24, PC: 0x200}
	for range 6 {
		m.Cycle(true, false)
		want.Cycles++
		checkRegs(t, "within NMI", m, want)
	}
	run(m, 1)
	checkRegs(t, "behind NMI", m, api.Regs{S: 0xfa, P: 0x24, PC: 0x500, Cycles: 7})
}

func TestP4RegsWithinABranch(t *testing.T) {
	m := boot(t, []byte{0x50, 0x80})
	for i := range 3 {
		run(m, 1)
		checkRegs(t, "within", m, api.Regs{S: 0xfd, P: 0x24, PC: 0x200, Cycles: i + 1})
	}
	run(m, 1)
	checkRegs(t, "behind", m, api.Regs{S: 0xfd, P: 0x24, PC: 0x182, Cycles: 4})
}

func TestP4PeekCutsItsAddress(t *testing.T) {
	m := newMachine(t, config(0, chunk(0, 11, 12), chunk(0xffff, 13)))
	for _, c := range [][2]int{
		{0, 11}, {1, 12}, {65535, 13}, {65536, 11}, {65537, 12}, {-1, 13}, {-65536, 11}, {-65535, 12},
		{1 << 40, 11}, {math.MaxInt, 13}, {math.MinInt, 11},
	} {
		checkPeek(t, "cut", m, c[0], c[1])
	}
	m = boot(t, append([]byte{0xa9, 0x05, 0x8d, 0x00, 0xd0}, nops...))
	run(m, 6)
	checkPeek(t, "the timer, cut", m, 0x1d000, 5)
}

func TestP4PeekChangesNothing(t *testing.T) {
	// LDA #2, STA $D000, NOP, LDA $D001
	m := boot(t, []byte{0xa9, 0x02, 0x8d, 0x00, 0xd0, 0xea, 0xad, 0x01, 0xd0})
	run(m, 8)
	before := m.Regs()
	for at := range 65536 {
		m.Peek(at)
	}
	for range 300 {
		checkTimer(t, "looked at", m, 0, 128)
	}
	checkRegs(t, "looked at", m, before)
	checkCycles(t, "looked at", m, "f0206:ad r0207:01 r0208:d0 rd001:80")
}

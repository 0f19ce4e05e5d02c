package stylet_test

import (
	"strings"
	"testing"

	"stylet/api"
	"stylet/stylet"
)

var nops = []byte{0xea, 0xea, 0xea, 0xea, 0xea, 0xea, 0xea, 0xea}

const nmiCycles = "w01fd:02 w01fc:01 w01fb:24 rfffa:00 rfffb:05"

func TestP3NMI(t *testing.T) {
	m := boot(t, nops)
	checkPins(t, "due in the fetch", m, "n-------", "f0200:ea r0200:ea w01fd:02 w01fc:00 w01fb:24 rfffa:00 rfffb:05 f0500:00")
	m = boot(t, nops)
	checkPins(t, "due in the midst, and off again", m, "-n-------", "f0200:ea r0201:ea f0201:ea r0201:ea "+nmiCycles)
	m = boot(t, nops, chunk(0x500, nops...))
	checkPins(t, "stays on: once", m, "-nnnnnnnnnnnn", "f0200:ea r0201:ea f0201:ea r0201:ea "+nmiCycles+" f0500:ea r0501:ea f0501:ea r0502:ea")
	m = boot(t, nops, chunk(0x500, nops...))
	checkPins(t, "off and on again within the sequence", m, "-nn-nnnnnnn", "f0200:ea r0201:ea f0201:ea r0201:ea "+nmiCycles+" f0500:ea r0500:ea")
	m = boot(t, []byte{0xe6, 0x10, 0xea})
	checkPins(t, "two edges are one NMI", m, "-n-n------------", `f0200:e6 r0201:10 r0010:00 w0010:00 w0010:01
		f0202:ea r0202:ea w01fd:02 w01fc:02 w01fb:24 rfffa:00 rfffb:05 f0500:00 r0501:00 w01fa:05 w01f9:02`)
	m = boot(t, []byte{0x58, 0xea})
	checkPins(t, "NMI goes ahead of IRQ, and sets I", m, "--bbbbbbbbb", `f0200:58 r0201:ea
		f0201:ea r0201:ea w01fd:02 w01fc:01 w01fb:20 rfffa:00 rfffb:05 f0500:00 r0501:00`)
}

func TestP3NMIWithinBreak(t *testing.T) {
	m := boot(t, []byte{0x00, 0x00}, chunk(0x600, 0xea))
	checkPins(t, "BRK goes on to its own vector", m, "--n-------", `f0200:00 r0201:00 w01fd:02 w01fc:02 w01fb:34 rfffe:00 rffff:06
		f0600:ea r0600:ea w01fa:06`)
	checkRegs(t, "in the NMI behind BRK", m, api.Regs{S: 0xfa, P: 0x24, PC: 0x600, Cycles: 10})
}

func TestP3NMIBehindAJam(t *testing.T) {
	m := boot(t, []byte{0x02})
	checkPins(t, "a jam stays", m, "-nb-b", "f0200:02 none none none none")
	m = boot(t, []byte{0x02})
	checkPins(t, "an NMI due in the fetch goes ahead of the jam", m, "n-------", "f0200:02 r0200:02 w01fd:02 w01fc:00 w01fb:24 rfffa:00 rfffb:05 f0500:00")
}

func TestP3IRQ(t *testing.T) {
	m := boot(t, nops)
	checkPins(t, "I is 1", m, "iiii", "f0200:ea r0201:ea f0201:ea r0202:ea")
	m = boot(t, []byte{0x58, 0xea})
	checkPins(t, "behind CLI", m, "iiiiiiiiii", "f0200:58 r0201:ea f0201:ea r0201:ea w01fd:02 w01fc:01 w01fb:20 rfffe:00 rffff:06 f0600:00")
	checkRegs(t, "I is 1 behind it", m, api.Regs{S: 0xfa, P: 0x24, PC: 0x600, Cycles: 10})
	m = boot(t, []byte{0x58, 0xea, 0xea, 0xea})
	checkPins(t, "only the fetch's pins count", m, "---i-i-i", "f0200:58 r0201:ea f0201:ea r0202:ea f0202:ea r0203:ea f0203:ea r0204:00")
	m = boot(t, []byte{0x58, 0x78, 0xea})
	checkPins(t, "SEI, too late", m, "---ii", "f0200:58 r0201:78 f0201:78 r0202:ea f0202:ea")
	m = boot(t, []byte{0x58, 0xea}, chunk(0x600, 0x40))
	checkPins(t, "behind RTI at once", m, strings.Repeat("i", 18), `f0200:58 r0201:ea f0201:ea r0201:ea w01fd:02 w01fc:01 w01fb:20 rfffe:00 rffff:06
		f0600:40 r0601:00 r01fa:00 r01fb:20 r01fc:01 r01fd:02 f0201:ea r0201:ea w01fd:02`)
	m = boot(t, []byte{0x58, 0x02})
	checkPins(t, "ahead of a jam", m, "--i-", "f0200:58 r0201:02 f0201:02 r0201:02")
}

func checkTimer(t *testing.T, what string, m *stylet.Machine, count, calls int) {
	t.Helper()
	checkPeek(t, what, m, 0xd000, count)
	checkPeek(t, what, m, 0xd001, calls)
}

func TestP3TimerCounts(t *testing.T) {
	m := boot(t, append([]byte{0xa9, 0x03, 0x8d, 0x00, 0xd0}, nops...))
	checkTimer(t, "at first", m, 0, 0)
	run(m, 5)
	checkTimer(t, "0 does not count", m, 0, 0)
	for i, want := range [][2]int{{3, 0}, {2, 0}, {1, 0}, {0, 128}, {0, 128}, {0, 128}} {
		run(m, 1)
		checkTimer(t, string(rune('0'+i))+" cycles behind it is set", m, want[0], want[1])
	}
}

func TestP3TimerIsReadAndWritten(t *testing.T) {
	// LDA #9, STA $D000, LDA $D000, NOP, NOP, LDA $D001, LDA $D001
	code := []byte{0xa9, 0x09, 0x8d, 0x00, 0xd0, 0xad, 0x00, 0xd0, 0xea, 0xea, 0xad, 0x01, 0xd0, 0xad, 0x01, 0xd0}
	m := boot(t, code)
	run(m, 6)
	checkCycles(t, "reading the count", m, "f0205:ad r0206:00 r0207:d0 rd000:06")
	checkTimer(t, "counts in that cycle too", m, 5, 0)
	run(m, 4)
	checkCycles(t, "reading the call", m, "f020a:ad r020b:01 r020c:d0 rd001:80 f020d:ad r020e:01 r020f:d0 rd001:00")
	checkTimer(t, "it does not call any more", m, 0, 0)
	run(m, 20)
	checkTimer(t, "nor again", m, 0, 0)
	// LDA #1, STA $D000, NOP, STA $D001: writing there does nothing
	m = boot(t, []byte{0xa9, 0x01, 0x8d, 0x00, 0xd0, 0xea, 0x8d, 0x01, 0xd0, 0xea})
	run(m, 8)
	checkTimer(t, "calls", m, 0, 128)
	checkCycles(t, "STA $D001", m, "f0206:8d r0207:01 r0208:d0 wd001:01")
	checkTimer(t, "calls on", m, 0, 128)
}

func TestP3TimerIsSetAnew(t *testing.T) {
	// LDA #1, STA $D000, INC $D000
	m := boot(t, []byte{0xa9, 0x01, 0x8d, 0x00, 0xd0, 0xee, 0x00, 0xd0})
	run(m, 6)
	checkTimer(t, "set to 1", m, 1, 0)
	run(m, 1)
	checkTimer(t, "behind one cycle", m, 0, 128)
	run(m, 3)
	checkTimer(t, "INC has read", m, 0, 128)
	run(m, 1)
	checkTimer(t, "INC wrote the same", m, 0, 128)
	run(m, 1)
	checkTimer(t, "INC wrote one more", m, 1, 128)
	// LDA #9, STA $D000, LDA #0, STA $D000
	m = boot(t, []byte{0xa9, 0x09, 0x8d, 0x00, 0xd0, 0xa9, 0x00, 0x8d, 0x00, 0xd0})
	run(m, 12)
	checkTimer(t, "set to 0", m, 0, 0)
	run(m, 20)
	checkTimer(t, "set to 0, it does not call", m, 0, 0)
}

func TestP3TimerCallsAsItsCallIsRead(t *testing.T) {
	// LDA #4, STA $D000, LDA $D001, LDA $D001: the count is 0 at the end of the cycle that reads the call
	m := boot(t, []byte{0xa9, 0x04, 0x8d, 0x00, 0xd0, 0xad, 0x01, 0xd0, 0xad, 0x01, 0xd0})
	run(m, 6)
	checkCycles(t, "LDA $D001", m, "f0205:ad r0206:01 r0207:d0 rd001:00")
	checkTimer(t, "the end of that cycle", m, 0, 128)
	checkCycles(t, "LDA $D001", m, "f0208:ad r0209:01 r020a:d0 rd001:80")
	checkTimer(t, "read", m, 0, 0)
}

func TestP3TimerInterrupts(t *testing.T) {
	// CLI, LDA #3, STA $D000, NOPs; at $600 NOP, LDA $D001, RTI
	code := append([]byte{0x58, 0xa9, 0x03, 0x8d, 0x00, 0xd0}, nops...)
	m := boot(t, code, chunk(0x600, 0xea, 0xad, 0x01, 0xd0, 0x40))
	run(m, 8)
	checkCycles(t, "a call at a fetch's end is too late for it", m, `f0206:ea r0207:ea f0207:ea r0208:ea
		f0208:ea r0208:ea w01fd:02 w01fc:08 w01fb:20 rfffe:00 rffff:06
		f0600:ea r0601:ad f0601:ad r0602:01 r0603:d0 rd001:80
		f0604:40 r0605:00 r01fa:00 r01fb:20 r01fc:08 r01fd:02 f0208:ea r0209:ea`)
	code[0] = 0xea
	m = boot(t, code)
	run(m, 8)
	checkCycles(t, "I is 1", m, "f0206:ea r0207:ea f0207:ea r0208:ea f0208:ea r0209:ea")
	checkTimer(t, "I is 1", m, 0, 128)
}

func TestP3FetchFromTheTimer(t *testing.T) {
	// CLI, LDA #3, STA $D000, JMP $D001: that fetch reads the call, so that it calls no more
	m := boot(t, []byte{0x58, 0xa9, 0x03, 0x8d, 0x00, 0xd0, 0x4c, 0x01, 0xd0})
	run(m, 8)
	checkCycles(t, "a fetch of the call", m, "f0206:4c r0207:01 r0208:d0 fd001:80 none")
	checkTimer(t, "a fetch of the call", m, 0, 0)
	m = boot(t, []byte{0xa9, 0xea, 0x8d, 0x00, 0xd0, 0x4c, 0x00, 0xd0})
	run(m, 6)
	checkCycles(t, "a fetch of the count", m, "f0205:4c r0206:00 r0207:d0 fd000:e7 none")
}

func TestP3Rom(t *testing.T) {
	// LDA #7, STA $02FF, STA $0300, STA $FF00, STA $D000, INC $0300
	code := []byte{0xa9, 0x07, 0x8d, 0xff, 0x02, 0x8d, 0x00, 0x03, 0x8d, 0x00, 0xff, 0x8d, 0x00, 0xd0, 0xee, 0x00, 0x03}
	m := newMachine(t, config(3, vectors, chunk(0x200, code...), chunk(0x300, 0x55)))
	run(m, 2)
	checkCycles(t, "the writes are seen", m, `f0202:8d r0203:ff r0204:02 w02ff:07 f0205:8d r0206:00 r0207:03 w0300:07
		f0208:8d r0209:00 r020a:ff wff00:07 f020b:8d r020c:00 r020d:d0 wd000:07
		f020e:ee r020f:00 r0210:03 r0300:55 w0300:55 w0300:56`)
	checkPeek(t, "below the Rom", m, 0x2ff, 7)
	checkPeek(t, "the Rom's first", m, 0x300, 0x55)
	checkPeek(t, "in the Rom", m, 0xff00, 0)
	checkPeek(t, "the timer in the Rom", m, 0xd000, 1)
	m = newMachine(t, config(1, vectors, chunk(0x200, 0x20, 0x00, 0x03), chunk(0x300, 0x60), chunk(0x1fc, 0x33, 0x04)))
	checkCycles(t, "the stack is in the Rom", m, `f0200:20 r0201:00 r01fd:04 w01fd:02 w01fc:02 r0202:03
		f0300:60 r0301:00 r01fb:00 r01fc:33 r01fd:04 r0433:00 f0434:00`)
	m = newMachine(t, config(0, vectors, chunk(0x200, 0xe6, 0x00)))
	run(m, 5)
	checkPeek(t, "all is Rom", m, 0, 0)
	m = newMachine(t, config(256, vectors, chunk(0x200, 0xee, 0xff, 0xff)))
	run(m, 6)
	checkPeek(t, "nothing is Rom", m, 0xffff, 7)
	m = newMachine(t, config(255, vectors, chunk(0x200, 0xee, 0xff, 0xfe, 0xee, 0x00, 0xff)))
	run(m, 12)
	checkPeek(t, "the page below", m, 0xfeff, 1)
	checkPeek(t, "the last page", m, 0xff00, 0)
}

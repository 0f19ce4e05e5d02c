package stylet_test

import (
	"fmt"
	"strings"
	"testing"

	"stylet/api"
	"stylet/stylet"
)

// vectors sends NMI to $500, the start to $200 and IRQ to $600.
var vectors = api.Chunk{At: 0xfffa, Bytes: []byte{0x00, 0x05, 0x00, 0x02, 0x00, 0x06}}

func chunk(at int, bytes ...byte) api.Chunk { return api.Chunk{At: at, Bytes: bytes} }

func config(rom int, chunks ...api.Chunk) api.Config { return api.Config{Chunks: chunks, Rom: rom} }

func newMachine(t *testing.T, c api.Config) *stylet.Machine {
	t.Helper()
	m, e := stylet.New(c)
	if m == nil || e != api.OK {
		t.Fatalf("New(%d chunks, Rom %d) = %v, %d", len(c.Chunks), c.Rom, m != nil, e)
	}
	return m
}

// boot gives a computer without Rom whose program stands at $200.
func boot(t *testing.T, code []byte, more ...api.Chunk) *stylet.Machine {
	t.Helper()
	return newMachine(t, config(256, append([]api.Chunk{vectors, chunk(0x200, code...)}, more...)...))
}

// told writes a cycle short: f, r or w, the address, the byte.
func told(b api.Bus, ok bool) string {
	kind := "r"
	switch {
	case !ok && b == api.Bus{}:
		return "none"
	case !ok:
		return "none, but a bus"
	case b.Write && b.Fetch:
		return "a fetch that writes"
	case b.Write:
		kind = "w"
	case b.Fetch:
		kind = "f"
	}
	return fmt.Sprintf("%s%04x:%02x", kind, b.Addr, b.Data)
}

// pins are written as a text too: a letter a cycle; - none, n NMI, i IRQ, b both.
func pinsOf(letter byte) (nmi, irq bool) {
	return letter == 'n' || letter == 'b', letter == 'i' || letter == 'b'
}

// checkPins does as many cycles as there are letters, and holds them against want.
func checkPins(t *testing.T, what string, m *stylet.Machine, pins, want string) {
	t.Helper()
	var got []string
	for i := range len(pins) {
		nmi, irq := pinsOf(pins[i])
		got = append(got, told(m.Cycle(nmi, irq)))
	}
	if all := strings.Join(got, " "); all != strings.Join(strings.Fields(want), " ") {
		t.Errorf("%s:\n got %s\nwant %s", what, all, want)
	}
}

func checkCycles(t *testing.T, what string, m *stylet.Machine, want string) {
	t.Helper()
	checkPins(t, what, m, strings.Repeat("-", len(strings.Fields(want))), want)
}

func run(m *stylet.Machine, cycles int) {
	for range cycles {
		m.Cycle(false, false)
	}
}

// runToJam gives up behind a bound, so that a broken program fails and does not hang.
func runToJam(t *testing.T, m *stylet.Machine) {
	t.Helper()
	for range 10000 {
		if _, ok := m.Cycle(false, false); !ok {
			return
		}
	}
	t.Fatal("it does not jam")
}

func checkRegs(t *testing.T, what string, m *stylet.Machine, want api.Regs) {
	t.Helper()
	if got := m.Regs(); got != want {
		t.Errorf("%s: Regs() = %+v, want %+v", what, got, want)
	}
}

func checkPeek(t *testing.T, what string, m *stylet.Machine, at, want int) {
	t.Helper()
	if got := m.Peek(at); got != want {
		t.Errorf("%s: Peek(%#x) = %d, want %d", what, at, got, want)
	}
}

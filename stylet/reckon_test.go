package stylet_test

import (
	"testing"

	"stylet/api"
)

// outcome is A and P, told by the document's words alone.
type outcome struct{ a, p int }

func bitOf(on bool, bit int) int {
	if on {
		return bit
	}
	return 0
}

func flagsOf(result int) int { return bitOf(result > 127, 128) + bitOf(result == 0, 2) }

func added(a, m, c int) outcome {
	sum := a + m + c
	cut := sum % 256
	signed := int(int8(a)) + int(int8(m)) + c
	return outcome{cut, 0x24 + flagsOf(cut) + bitOf(sum > 255, 1) + bitOf(signed < -128 || signed > 127, 64)}
}

// checkAll tries LDA #a, CLC or SEC, code #m with every a, m and C.
func checkAll(t *testing.T, name string, code byte, want func(a, m, c int) outcome) {
	t.Helper()
	for a := range 256 {
		for c := range 2 {
			var program []byte
			for m := range 256 {
				program = append(program, 0xb8, []byte{0x18, 0x38}[c], 0xa9, byte(a), code, byte(m))
			}
			machine := boot(t, program)
			for m := range 256 {
				run(machine, 8)
				r := machine.Regs()
				if got := (outcome{r.A, r.P}); got != want(a, m, c) {
					t.Fatalf("%s: A %d, m %d, C %d: %+v, want %+v", name, a, m, c, got, want(a, m, c))
				}
			}
		}
	}
}

func TestP3AddsAndSubtracts(t *testing.T) {
	checkAll(t, "ADC", 0x69, added)
	checkAll(t, "SBC", 0xe9, func(a, m, c int) outcome { return added(a, 255-m, c) })
}

func TestP3LoadsComparesAndJoins(t *testing.T) {
	checkAll(t, "CMP", 0xc9, func(a, m, c int) outcome {
		return outcome{a, 0x24 + flagsOf((a-m+256)%256) + bitOf(a >= m, 1)}
	})
	checkAll(t, "LDA", 0xa9, func(a, m, c int) outcome { return outcome{m, 0x24 + flagsOf(m) + c} })
	checkAll(t, "AND", 0x29, func(a, m, c int) outcome { return outcome{a & m, 0x24 + flagsOf(a&m) + c} })
	checkAll(t, "ORA", 0x09, func(a, m, c int) outcome { return outcome{a | m, 0x24 + flagsOf(a|m) + c} })
	checkAll(t, "EOR", 0x49, func(a, m, c int) outcome { return outcome{a ^ m, 0x24 + flagsOf(a^m) + c} })
}

func TestP3Shifts(t *testing.T) {
	for _, s := range []struct {
		name string
		code byte
		want func(a, c int) (result, out int)
	}{
		{"ASL", 0x0a, func(a, c int) (int, int) { return a * 2 % 256, a / 128 }},
		{"ROL", 0x2a, func(a, c int) (int, int) { return a*2%256 + c, a / 128 }},
		{"LSR", 0x4a, func(a, c int) (int, int) { return a / 2, a % 2 }},
		{"ROR", 0x6a, func(a, c int) (int, int) { return a/2 + 128*c, a % 2 }},
	} {
		for a := range 256 {
			for c := range 2 {
				m := boot(t, []byte{0xa9, byte(a), []byte{0x18, 0x38}[c], s.code})
				run(m, 6)
				result, out := s.want(a, c)
				checkRegs(t, s.name, m, api.Regs{A: result, S: 0xfd, P: 0x24 + flagsOf(result) + out, PC: 0x204, Cycles: 6})
			}
		}
	}
}

// TestP3DoesWhatIsSaid: programs that jam at their end, and the registers there.
func TestP3DoesWhatIsSaid(t *testing.T) {
	for _, c := range []struct {
		what          string
		code          []byte
		a, x, y, s, p int
	}{
		{"LDA 0", []byte{0xa9, 0x00}, 0, 0, 0, 0xfd, 0x26},
		{"LDX, LDY", []byte{0xa2, 0x80, 0xa0, 0x01}, 0, 0x80, 1, 0xfd, 0x24},
		{"TAX, TAY", []byte{0xa9, 0x90, 0xaa, 0xa8}, 0x90, 0x90, 0x90, 0xfd, 0xa4},
		{"TXA", []byte{0xa2, 0x85, 0xa9, 0x01, 0x8a}, 0x85, 0x85, 0, 0xfd, 0xa4},
		{"TYA", []byte{0xa0, 0x00, 0xa9, 0x01, 0x98}, 0, 0, 0, 0xfd, 0x26},
		{"TSX", []byte{0xba}, 0, 0xfd, 0, 0xfd, 0xa4},
		{"TXS sets no flags", []byte{0xa2, 0x00, 0xa9, 0x80, 0x9a}, 0x80, 0, 0, 0, 0xa4},
		{"INX round", []byte{0xa2, 0xff, 0xe8}, 0, 0, 0, 0xfd, 0x26},
		{"INY", []byte{0xa0, 0x7f, 0xc8}, 0, 0, 0x80, 0xfd, 0xa4},
		{"DEX round", []byte{0xca}, 0, 0xff, 0, 0xfd, 0xa4},
		{"DEY", []byte{0xa0, 0x01, 0x88}, 0, 0, 0, 0xfd, 0x26},
		{"CPX", []byte{0xa2, 0x05, 0xe0, 0x05}, 0, 5, 0, 0xfd, 0x27},
		{"CPX, less", []byte{0xa2, 0x05, 0xe0, 0x06}, 0, 5, 0, 0xfd, 0xa4},
		{"CPY", []byte{0xa0, 0x90, 0xc0, 0x05}, 0, 0, 0x90, 0xfd, 0xa5},
		{"SEC, SED, CLI", []byte{0x38, 0xf8, 0x58}, 0, 0, 0, 0xfd, 0x29},
		{"CLC, CLD, SEI", []byte{0x38, 0xf8, 0x58, 0x18, 0xd8, 0x78}, 0, 0, 0, 0xfd, 0x24},
		{"D changes nothing", []byte{0xf8, 0x38, 0xa9, 0x09, 0x69, 0x00}, 0x0a, 0, 0, 0xfd, 0x2c},
		{"D changes nothing in SBC", []byte{0xf8, 0x38, 0xa9, 0x10, 0xe9, 0x01}, 0x0f, 0, 0, 0xfd, 0x2d},
		{"CLV", []byte{0xa9, 0x7f, 0x69, 0x01, 0xb8}, 0x80, 0, 0, 0xfd, 0xa4},
		{"BIT, all", []byte{0xa9, 0xc0, 0x85, 0x10, 0xa9, 0x3f, 0x24, 0x10}, 0x3f, 0, 0, 0xfd, 0xe6},
		{"BIT, V alone", []byte{0xa9, 0x40, 0x85, 0x10, 0x24, 0x10}, 0x40, 0, 0, 0xfd, 0x64},
		{"BIT, N alone", []byte{0xa9, 0x81, 0x85, 0x10, 0xa9, 0x01, 0x24, 0x10}, 1, 0, 0, 0xfd, 0xa4},
		{"INC round", []byte{0xa9, 0xff, 0x85, 0x10, 0xe6, 0x10}, 0xff, 0, 0, 0xfd, 0x26},
		{"DEC round", []byte{0xc6, 0x10}, 0, 0, 0, 0xfd, 0xa4},
		{"PLA", []byte{0xa9, 0x00, 0x48, 0xa9, 0x80, 0x68}, 0, 0, 0, 0xfd, 0x26},
		{"PLP of all", []byte{0xa9, 0xff, 0x48, 0x28}, 0xff, 0, 0, 0xfd, 0xef},
		{"PLP of none", []byte{0xa9, 0x00, 0x48, 0x28}, 0, 0, 0, 0xfd, 0x20},
	} {
		m := boot(t, append(c.code, 0x02))
		runToJam(t, m)
		r := m.Regs()
		checkRegs(t, c.what, m, api.Regs{A: c.a, X: c.x, Y: c.y, S: c.s, P: c.p, PC: 0x200 + len(c.code), Cycles: r.Cycles, Jam: true})
	}
}

// TestP3TakesTheRightRegister: the byte that the bus saw last is another one.
func TestP3TakesTheRightRegister(t *testing.T) {
	m := boot(t, []byte{0xa9, 0x11, 0xa2, 0x22, 0xa0, 0x33, 0x86, 0x10, 0x84, 0x11, 0x85, 0x12, 0x84, 0x13, 0x48, 0xa6, 0x13, 0x0a, 0x02})
	runToJam(t, m)
	for at, want := range map[int]int{0x10: 0x22, 0x11: 0x33, 0x12: 0x11, 0x13: 0x33, 0x1fd: 0x11} {
		checkPeek(t, "STX, STY, STA, STY, PHA", m, at, want)
	}
	if r := m.Regs(); r.A != 0x22 {
		t.Errorf("ASL A: A = %#x, want 0x22", r.A)
	}
}

package stylet_test

import (
	"fmt"
	"testing"

	"stylet/api"
)

func TestP3Example(t *testing.T) {
	m := boot(t, []byte{0xa9, 0x05, 0x69, 0xfe, 0x8d, 0x00, 0x03, 0x02})
	checkCycles(t, "the example", m, `f0200:a9 r0201:05 f0202:69 r0203:fe
		f0204:8d r0205:00 r0206:03 w0300:03 f0207:02 none none`)
	checkRegs(t, "the example", m, api.Regs{A: 3, S: 0xfd, P: 0x25, PC: 0x207, Cycles: 9, Jam: true})
	checkPeek(t, "the example", m, 0x300, 3)
}

// modeCase is an instruction behind LDX #x, LDY #y, with bytes in memory.
type modeCase struct {
	what string
	x, y byte
	code []byte
	want string
}

func checkMode(t *testing.T, c modeCase, more ...api.Chunk) {
	t.Helper()
	m := boot(t, append([]byte{0xa2, c.x, 0xa0, c.y}, c.code...), more...)
	run(m, 4)
	checkCycles(t, c.what, m, c.want)
}

func TestP3ModesInTheZeroPage(t *testing.T) {
	page := chunk(0x00, 0x21, 0x22, 0x23)
	for _, c := range []modeCase{
		{"NOP", 0, 0, []byte{0xea}, "f0204:ea r0205:00 f0205:00"},
		{"ROR A", 0, 0, []byte{0x6a, 0xea}, "f0204:6a r0205:ea f0205:ea"},
		{"LDA imm", 0, 0, []byte{0xa9, 0x33}, "f0204:a9 r0205:33 f0206:00"},
		{"LDA zp", 7, 7, []byte{0xa5, 0x01}, "f0204:a5 r0205:01 r0001:22 f0206:00"},
		{"STY zp", 7, 8, []byte{0x84, 0x01}, "f0204:84 r0205:01 w0001:08 f0206:00"},
		{"DEC zp", 7, 7, []byte{0xc6, 0x01}, "f0204:c6 r0205:01 r0001:22 w0001:22 w0001:21 f0206:00"},
		{"LDA zpx", 2, 7, []byte{0xb5, 0x00}, "f0204:b5 r0205:00 r0000:21 r0002:23 f0206:00"},
		{"LDA zpx, cut", 2, 7, []byte{0xb5, 0xff}, "f0204:b5 r0205:ff r00ff:00 r0001:22 f0206:00"},
		{"STY zpx, cut", 2, 7, []byte{0x94, 0xff}, "f0204:94 r0205:ff r00ff:00 w0001:07 f0206:00"},
		{"LSR zpx, cut", 2, 7, []byte{0x56, 0xff}, "f0204:56 r0205:ff r00ff:00 r0001:22 w0001:22 w0001:11 f0206:00"},
		{"LDX zpy", 7, 2, []byte{0xb6, 0x00}, "f0204:b6 r0205:00 r0000:21 r0002:23 f0206:00"},
		{"STX zpy, cut", 9, 2, []byte{0x96, 0xff}, "f0204:96 r0205:ff r00ff:00 w0001:09 f0206:00"},
	} {
		checkMode(t, c, page)
	}
}

func TestP3ModesWithWholeAddresses(t *testing.T) {
	page, last := chunk(0x380, 0x77, 0x78, 0x79), chunk(0xffff, 0x06, 0x21, 0x22)
	for _, c := range []modeCase{
		{"LDA abs", 7, 7, []byte{0xad, 0x81, 0x03}, "f0204:ad r0205:81 r0206:03 r0381:78 f0207:00"},
		{"STX abs", 9, 7, []byte{0x8e, 0x81, 0x03}, "f0204:8e r0205:81 r0206:03 w0381:09 f0207:00"},
		{"INC abs", 9, 7, []byte{0xee, 0x81, 0x03}, "f0204:ee r0205:81 r0206:03 r0381:78 w0381:78 w0381:79 f0207:00"},
		{"LDA abx", 2, 7, []byte{0xbd, 0x80, 0x03}, "f0204:bd r0205:80 r0206:03 r0382:79 f0207:00"},
		{"LDA abx, nearly cut", 0x7f, 7, []byte{0xbd, 0x80, 0x02}, "f0204:bd r0205:80 r0206:02 r02ff:00 f0207:00"},
		{"LDA abx, cut", 0x82, 7, []byte{0xbd, 0xff, 0x02}, "f0204:bd r0205:ff r0206:02 r0281:00 r0381:78 f0207:00"},
		{"LDX aby, cut", 7, 0x82, []byte{0xbe, 0xff, 0x02}, "f0204:be r0205:ff r0206:02 r0281:00 r0381:78 f0207:00"},
		{"LDY abx, round", 2, 7, []byte{0xbc, 0xff, 0xff}, "f0204:bc r0205:ff r0206:ff rff01:00 r0001:22 f0207:00"},
		{"STA abx", 2, 7, []byte{0x9d, 0x80, 0x03}, "f0204:9d r0205:80 r0206:03 r0382:79 w0382:00 f0207:00"},
		{"STA aby, cut", 7, 0x82, []byte{0x99, 0xff, 0x02}, "f0204:99 r0205:ff r0206:02 r0281:00 w0381:00 f0207:00"},
		{"INC abx", 2, 7, []byte{0xfe, 0x80, 0x03}, "f0204:fe r0205:80 r0206:03 r0382:79 r0382:79 w0382:79 w0382:7a f0207:00"},
		{"ASL abx, cut", 0x82, 7, []byte{0x1e, 0xff, 0x02}, "f0204:1e r0205:ff r0206:02 r0281:00 r0381:78 w0381:78 w0381:f0 f0207:00"},
	} {
		checkMode(t, c, page, last)
	}
}

func TestP3ModesByWayOfTheZeroPage(t *testing.T) {
	page, low, end := chunk(0x380, 0x77, 0x78, 0x79), chunk(0x00, 0x03, 0x80, 0x03, 0xff, 0x02), chunk(0xff, 0x80)
	for _, c := range []modeCase{
		{"LDA izx", 1, 7, []byte{0xa1, 0x00}, "f0204:a1 r0205:00 r0000:03 r0001:80 r0002:03 r0380:77 f0206:00"},
		{"LDA izx, p + X cut", 2, 7, []byte{0xa1, 0xff}, "f0204:a1 r0205:ff r00ff:80 r0001:80 r0002:03 r0380:77 f0206:00"},
		{"LDA izx, p + X + 1 cut", 1, 7, []byte{0xa1, 0xfe}, "f0204:a1 r0205:fe r00fe:00 r00ff:80 r0000:03 r0380:77 f0206:00"},
		{"STA izx", 1, 7, []byte{0x81, 0x00}, "f0204:81 r0205:00 r0000:03 r0001:80 r0002:03 w0380:00 f0206:00"},
		{"LDA izy", 7, 2, []byte{0xb1, 0x01}, "f0204:b1 r0205:01 r0001:80 r0002:03 r0382:79 f0206:00"},
		{"LDA izy, p + 1 cut", 7, 2, []byte{0xb1, 0xff}, "f0204:b1 r0205:ff r00ff:80 r0000:03 r0382:79 f0206:00"},
		{"LDA izy, cut", 7, 0x82, []byte{0xb1, 0x03}, "f0204:b1 r0205:03 r0003:ff r0004:02 r0281:00 r0381:78 f0206:00"},
		{"STA izy", 7, 2, []byte{0x91, 0x01}, "f0204:91 r0205:01 r0001:80 r0002:03 r0382:79 w0382:00 f0206:00"},
		{"STA izy, cut", 7, 0x82, []byte{0x91, 0x03}, "f0204:91 r0205:03 r0003:ff r0004:02 r0281:00 w0381:00 f0206:00"},
	} {
		checkMode(t, c, page, low, end)
	}
}

func TestP3Branches(t *testing.T) {
	// PLP, behind LDA #flags and PHA, sets them; then the branch stands at $204
	set := func(flags byte, code, d byte) []byte { return []byte{0xa9, flags, 0x48, 0x28, code, d} }
	for _, c := range []struct {
		code, on, off byte // flags with which it is taken, and not
	}{
		{0x90, 0xfe, 0x01}, {0xb0, 0x01, 0xfe}, {0xd0, 0xfd, 0x02}, {0xf0, 0x02, 0xfd},
		{0x10, 0x7f, 0x80}, {0x30, 0x80, 0x7f}, {0x50, 0xbf, 0x40}, {0x70, 0x40, 0xbf},
	} {
		m := boot(t, set(c.on, c.code, 0x10))
		run(m, 9)
		checkCycles(t, "taken", m, fmt.Sprintf("f0204:%02x r0205:10 r0206:00 f0216:00", c.code))
		m = boot(t, set(c.off, c.code, 0x10))
		run(m, 9)
		checkCycles(t, "not taken", m, fmt.Sprintf("f0204:%02x r0205:10 f0206:00", c.code))
	}
	m := boot(t, []byte{0x50, 0x00})
	checkCycles(t, "taken to where it is", m, "f0200:50 r0201:00 r0202:00 f0202:00")
	m = boot(t, []byte{0x50, 0x7f})
	checkCycles(t, "far on", m, "f0200:50 r0201:7f r0202:00 f0281:00")
	m = boot(t, []byte{0x50, 0x80})
	checkCycles(t, "far back, over a page", m, "f0200:50 r0201:80 r0202:00 r0282:00 f0182:00")
	m = boot(t, []byte{0x4c, 0xfd, 0x02}, chunk(0x2fd, 0x50, 0x00))
	run(m, 3)
	checkCycles(t, "to the page's end", m, "f02fd:50 r02fe:00 r02ff:00 f02ff:00")
	m = boot(t, []byte{0x4c, 0xfe, 0x02}, chunk(0x2fe, 0x50, 0xfe))
	run(m, 3)
	checkCycles(t, "back over the page's end", m, "f02fe:50 r02ff:fe r0300:00 r03fe:00 f02fe:50")
	m = boot(t, []byte{0x4c, 0xf0, 0xff}, chunk(0xfff0, 0x50, 0x20))
	run(m, 3)
	checkCycles(t, "round", m, "ffff0:50 rfff1:20 rfff2:00 rff12:00 f0012:00")
	m = boot(t, []byte{0x4c, 0x10, 0x00}, chunk(0x10, 0x50, 0xe0))
	run(m, 3)
	checkCycles(t, "round back", m, "f0010:50 r0011:e0 r0012:00 r00f2:00 ffff2:00")
}

func TestP3Jumps(t *testing.T) {
	m := boot(t, []byte{0x4c, 0x10, 0x03})
	checkCycles(t, "JMP abs", m, "f0200:4c r0201:10 r0202:03 f0310:00")
	m = boot(t, []byte{0x6c, 0x10, 0x03}, chunk(0x310, 0x20, 0x04))
	checkCycles(t, "JMP ind", m, "f0200:6c r0201:10 r0202:03 r0310:20 r0311:04 f0420:00")
	m = boot(t, []byte{0x6c, 0xff, 0x03}, chunk(0x3ff, 0x20, 0x09), chunk(0x300, 0x04))
	checkCycles(t, "JMP ind, cut", m, "f0200:6c r0201:ff r0202:03 r03ff:20 r0300:04 f0420:00")
	m = boot(t, []byte{0x20, 0x10, 0x03}, chunk(0x310, 0x60))
	checkCycles(t, "JSR, RTS", m, `f0200:20 r0201:10 r01fd:00 w01fd:02 w01fc:02 r0202:03
		f0310:60 r0311:00 r01fb:00 r01fc:02 r01fd:02 r0202:03 f0203:00`)
	m = boot(t, []byte{0x4c, 0xfb, 0x01}, chunk(0x1fb, 0x20, 0x34, 0x55, 0x66))
	run(m, 3)
	checkCycles(t, "JSR over itself", m, "f01fb:20 r01fc:34 r01fd:55 w01fd:01 w01fc:fd r01fd:01 f0134:00")
	m = boot(t, []byte{0x4c, 0xfd, 0xff}, chunk(0xfffd, 0x02))
	checkCycles(t, "a fetch at the end, jams", m, "f0200:4c r0201:fd r0202:ff ffffd:02 none")
	m = boot(t, []byte{0x4c, 0xff, 0xff}, chunk(0xffff, 0xa5), chunk(0, 0x01, 0x02))
	run(m, 3)
	checkCycles(t, "PC goes round", m, "fffff:a5 r0000:01 r0001:02 f0001:02 none")
}

func TestP3Stack(t *testing.T) {
	m := boot(t, []byte{0xa9, 0x81, 0x48, 0x08, 0x68, 0x28, 0x08})
	checkCycles(t, "PHA, PHP, PLA, PLP, PHP", m, `f0200:a9 r0201:81
		f0202:48 r0203:08 w01fd:81 f0203:08 r0204:68 w01fc:b4
		f0204:68 r0205:28 r01fb:00 r01fc:b4 f0205:28 r0206:08 r01fc:b4 r01fd:81
		f0206:08 r0207:00 w01fd:b1`)
	checkRegs(t, "PLP keeps B 0", m, api.Regs{A: 0xb4, S: 0xfc, P: 0xa1, PC: 0x207, Cycles: 19})
	m = boot(t, []byte{0xa2, 0x00, 0x9a, 0x48, 0x48, 0x68, 0x68})
	checkCycles(t, "the stack goes round", m, `f0200:a2 r0201:00 f0202:9a r0203:48
		f0203:48 r0204:48 w0100:00 f0204:48 r0205:68 w01ff:00
		f0205:68 r0206:68 r01fe:00 r01ff:00 f0206:68 r0207:00 r01ff:00 r0100:00`)
}

func TestP3BreakAndReturn(t *testing.T) {
	m := boot(t, []byte{0x38, 0x00, 0x99, 0x02}, chunk(0x600, 0x40))
	run(m, 2)
	checkCycles(t, "BRK, RTI", m, `f0201:00 r0202:99 w01fd:02 w01fc:03 w01fb:35 rfffe:00 rffff:06
		f0600:40 r0601:00 r01fa:00 r01fb:35 r01fc:03 r01fd:02 f0203:02`)
	m = boot(t, []byte{0x58, 0x00})
	run(m, 9)
	checkRegs(t, "BRK sets I", m, api.Regs{S: 0xfa, P: 0x24, PC: 0x600, Cycles: 9})
	m = boot(t, []byte{0xa9, 0xff, 0x48, 0xa9, 0x04, 0x48, 0xa9, 0xdf, 0x48, 0x40})
	run(m, 21)
	checkRegs(t, "RTI", m, api.Regs{A: 0xdf, S: 0xfd, P: 0xef, PC: 0xff04, Cycles: 21})
	m = boot(t, []byte{0xa9, 0x10, 0x48, 0x28})
	run(m, 9)
	checkRegs(t, "PLP", m, api.Regs{A: 0x10, S: 0xfd, P: 0x20, PC: 0x204, Cycles: 9})
}

// TestP3EveryOpcode: each one of the document's table goes on behind its
// cycles, and each other one jams.
func TestP3EveryOpcode(t *testing.T) {
	table := opcodes()
	if len(table) != 151 {
		t.Fatalf("the table has %d opcodes", len(table))
	}
	off := func(int) (bool, bool) { return false, false }
	for code := range 256 {
		code := byte(code)
		c := config(256, vectors, chunk(0x200, code, 0x42, 0x03), chunk(0x40, 0xff, 0x02, 0xfe, 0x03, 0x81))
		m := newMachine(t, c)
		if _, ok := table[code]; ok {
			checkModel(t, m, newModel(c, table, off), 40, off)
			continue
		}
		checkCycles(t, "jams", m, fmt.Sprintf("f0200:%02x none none", code))
		checkRegs(t, "jams", m, api.Regs{S: 0xfd, P: 0x24, PC: 0x200, Cycles: 1, Jam: true})
	}
}

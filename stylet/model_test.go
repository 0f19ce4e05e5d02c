package stylet_test

import (
	"strconv"
	"strings"

	"stylet/api"
)

// opcodeText is the document's table of opcodes.
const opcodeText = `
ADC imm=69 zp=65 zpx=75 abs=6D abx=7D aby=79 izx=61 izy=71
AND imm=29 zp=25 zpx=35 abs=2D abx=3D aby=39 izx=21 izy=31
ASL acc=0A zp=06 zpx=16 abs=0E abx=1E
BCC rel=90; BCS rel=B0; BEQ rel=F0
BMI rel=30; BNE rel=D0; BPL rel=10
BVC rel=50; BVS rel=70; BIT zp=24 abs=2C
BRK imp=00; CLC imp=18; CLD imp=D8
CLI imp=58; CLV imp=B8
CMP imm=C9 zp=C5 zpx=D5 abs=CD abx=DD aby=D9 izx=C1 izy=D1
CPX imm=E0 zp=E4 abs=EC
CPY imm=C0 zp=C4 abs=CC
DEC zp=C6 zpx=D6 abs=CE abx=DE
DEX imp=CA; DEY imp=88
EOR imm=49 zp=45 zpx=55 abs=4D abx=5D aby=59 izx=41 izy=51
INC zp=E6 zpx=F6 abs=EE abx=FE
INX imp=E8; INY imp=C8; JMP abs=4C ind=6C
JSR abs=20
LDA imm=A9 zp=A5 zpx=B5 abs=AD abx=BD aby=B9 izx=A1 izy=B1
LDX imm=A2 zp=A6 zpy=B6 abs=AE aby=BE
LDY imm=A0 zp=A4 zpx=B4 abs=AC abx=BC
LSR acc=4A zp=46 zpx=56 abs=4E abx=5E
NOP imp=EA
ORA imm=09 zp=05 zpx=15 abs=0D abx=1D aby=19 izx=01 izy=11
PHA imp=48; PHP imp=08; PLA imp=68
PLP imp=28
ROL acc=2A zp=26 zpx=36 abs=2E abx=3E
ROR acc=6A zp=66 zpx=76 abs=6E abx=7E
RTI imp=40; RTS imp=60
SBC imm=E9 zp=E5 zpx=F5 abs=ED abx=FD aby=F9 izx=E1 izy=F1
SEC imp=38; SED imp=F8; SEI imp=78
STA zp=85 zpx=95 abs=8D abx=9D aby=99 izx=81 izy=91
STX zp=86 zpy=96 abs=8E
STY zp=84 zpx=94 abs=8C
TAX imp=AA; TAY imp=A8; TSX imp=BA
TXA imp=8A; TXS imp=9A; TYA imp=98`

type opcode struct{ name, mode string }

func opcodes() map[byte]opcode {
	table := map[byte]opcode{}
	for _, row := range strings.FieldsFunc(opcodeText, func(r rune) bool { return r == '\n' || r == ';' }) {
		words := strings.Fields(row)
		for _, word := range words[1:] {
			mode, digits, _ := strings.Cut(word, "=")
			code, err := strconv.ParseUint(digits, 16, 8)
			if err != nil {
				panic(err)
			}
			table[byte(code)] = opcode{words[0], mode}
		}
	}
	return table
}

// moment is what can be seen of a computer behind a cycle.
type moment struct {
	bus          api.Bus
	regs         api.Regs
	count, calls int
}

// model does whole instructions, one bus access behind the other, as the
// document's tables write them; each access notes a moment.
type model struct {
	table  map[byte]opcode
	seen   map[byte]int // opcodes, and how often
	memory [65536]int
	rom    int
	pins   func(cycle int) (nmi, irq bool)

	a, x, y, s, p, pc int
	behind            api.Regs
	count             int
	calls             bool
	nmiOn, nmiDue     bool
	irqOn             bool // the line or the timer, between a cycle's access and its end
	moments           []moment
}

func newModel(c api.Config, table map[byte]opcode, pins func(int) (bool, bool)) *model {
	m := &model{table: table, seen: map[byte]int{}, rom: c.Rom * 256, pins: pins, s: 0xfd, p: 0x24}
	for _, chunk := range c.Chunks {
		for i, b := range chunk.Bytes {
			m.memory[(chunk.At+i)&0xffff] = int(b)
		}
	}
	m.pc = m.memory[0xfffc] + 256*m.memory[0xfffd]
	m.behind = m.regs()
	return m
}

func (m *model) regs() api.Regs {
	return api.Regs{A: m.a, X: m.x, Y: m.y, S: m.s, P: m.p, PC: m.pc}
}

// run does instructions until there are n cycles, or it jams.
func (m *model) run(n int) {
	for len(m.moments) < n && m.instruction() {
		m.behind = m.regs()
		last := &m.moments[len(m.moments)-1]
		cycles := last.regs.Cycles
		last.regs = m.behind
		last.regs.Cycles = cycles
	}
}

func (m *model) cycle(at int, data int, write bool) int {
	nmi, irq := m.pins(len(m.moments))
	m.nmiDue = m.nmiDue || nmi && !m.nmiOn
	m.nmiOn = nmi
	switch {
	case write && at == 0xd000:
		m.count = data
	case write:
		if at < m.rom {
			m.memory[at] = data
		}
	case at == 0xd000:
		data = m.count
	case at == 0xd001:
		data = m.call()
		m.calls = false
	default:
		data = m.memory[at]
	}
	m.irqOn = irq || m.calls
	if m.count > 0 && !(write && at == 0xd000) {
		m.count--
		m.calls = m.calls || m.count == 0
	}
	regs := m.behind
	regs.Cycles = len(m.moments) + 1
	m.moments = append(m.moments, moment{api.Bus{Addr: at, Data: data, Write: write}, regs, m.count, m.call()})
	return data
}

func (m *model) call() int {
	if m.calls {
		return 128
	}
	return 0
}

func (m *model) r(at int) int      { return m.cycle(at&0xffff, 0, false) }
func (m *model) w(at int, b int)   { m.cycle(at&0xffff, b&255, true) }
func (m *model) push(b int)        { m.w(0x100+m.s, b); m.s = (m.s - 1) & 255 }
func (m *model) pull() int         { m.s = (m.s + 1) & 255; return m.r(0x100 + m.s) }
func (m *model) next() int         { b := m.r(m.pc); m.pc = (m.pc + 1) & 0xffff; return b }
func (m *model) flag(bit int) bool { return m.p/bit%2 == 1 }

func (m *model) put(bit int, on bool) {
	if m.flag(bit) != on {
		m.p ^= bit
	}
}

func (m *model) nz(b int) int {
	b &= 255
	m.put(128, b > 127)
	m.put(2, b == 0)
	return b
}

// instruction does one, or a sequence; false: it has jammed.
func (m *model) instruction() bool {
	code := byte(m.r(m.pc))
	m.moments[len(m.moments)-1].bus.Fetch = true
	if m.nmiDue {
		m.nmiDue = false
		m.r(m.pc)
		m.interrupt(0xfffa, m.p)
		return true
	}
	if m.irqOn && !m.flag(4) {
		m.r(m.pc)
		m.interrupt(0xfffe, m.p)
		return true
	}
	op, ok := m.table[code]
	if !ok {
		m.moments[len(m.moments)-1].regs.Jam = true
		return false
	}
	m.seen[code]++
	m.pc = (m.pc + 1) & 0xffff
	if !m.special(op) {
		m.ordinary(op)
	}
	return true
}

func (m *model) interrupt(vector, flags int) {
	m.push(m.pc / 256)
	m.push(m.pc % 256)
	m.push(flags)
	m.put(4, true)
	low := m.r(vector)
	m.pc = low + 256*m.r(vector+1)
}

// special does the instructions that have cycles of their own.
func (m *model) special(op opcode) bool {
	switch op.name {
	case "JMP":
		at := m.next()
		if op.mode == "abs" {
			m.pc = at + 256*m.r(m.pc)
			return true
		}
		page := 256 * m.next()
		low := m.r(page + at)
		m.pc = low + 256*m.r(page+(at+1)%256)
	case "JSR":
		low := m.next()
		m.r(0x100 + m.s)
		m.push(m.pc / 256)
		m.push(m.pc % 256)
		m.pc = low + 256*m.r(m.pc)
	case "RTS":
		m.r(m.pc)
		m.r(0x100 + m.s)
		low := m.pull()
		m.pc = low + 256*m.pull()
		m.next()
	case "RTI":
		m.r(m.pc)
		m.r(0x100 + m.s)
		m.p = m.pull()&0xef | 0x20
		low := m.pull()
		m.pc = low + 256*m.pull()
	case "BRK":
		m.next()
		m.interrupt(0xfffe, m.p|16)
	case "PHA":
		m.r(m.pc)
		m.push(m.a)
	case "PHP":
		m.r(m.pc)
		m.push(m.p | 16)
	case "PLA":
		m.r(m.pc)
		m.r(0x100 + m.s)
		m.a = m.nz(m.pull())
	case "PLP":
		m.r(m.pc)
		m.r(0x100 + m.s)
		m.p = m.pull()&0xef | 0x20
	default:
		return false
	}
	return true
}

func (m *model) ordinary(op opcode) {
	switch op.mode {
	case "imp":
		m.r(m.pc)
		m.implied(op.name)
	case "acc":
		m.r(m.pc)
		m.a = m.changed(op.name, m.a)
	case "imm":
		m.use(op.name, m.next())
	case "rel":
		m.branch(op.name)
	case "abx", "aby", "izy":
		m.indexed(op)
	default:
		m.memoryAt(op.name, m.address(op.mode))
	}
}

func (m *model) address(mode string) int {
	p := m.next()
	switch mode {
	case "abs":
		return p + 256*m.next()
	case "zpx":
		m.r(p)
		return (p + m.x) % 256
	case "zpy":
		m.r(p)
		return (p + m.y) % 256
	case "izx":
		m.r(p)
		low := m.r((p + m.x) % 256)
		return low + 256*m.r((p+m.x+1)%256)
	}
	return p
}

func (m *model) indexed(op opcode) {
	low, index := m.next(), m.y
	page := 0
	switch op.mode {
	case "abx":
		page, index = 256*m.next(), m.x
	case "aby":
		page = 256 * m.next()
	case "izy":
		p := low
		low = m.r(p)
		page = 256 * m.r((p+1)%256)
	}
	b := m.r(page + (low+index)%256)
	if low+index < 256 && kindOf(op.name) == "READ" {
		m.use(op.name, b)
		return
	}
	m.memoryAt(op.name, page+low+index)
}

func kindOf(name string) string {
	switch name {
	case "STA", "STX", "STY":
		return "WRITE"
	case "ASL", "LSR", "ROL", "ROR", "INC", "DEC":
		return "CHANGE"
	}
	return "READ"
}

func (m *model) memoryAt(name string, at int) {
	switch kindOf(name) {
	case "WRITE":
		m.w(at, map[string]int{"STA": m.a, "STX": m.x, "STY": m.y}[name])
	case "CHANGE":
		b := m.r(at)
		m.w(at, b)
		m.w(at, m.changed(name, b))
	default:
		m.use(name, m.r(at))
	}
}

func (m *model) branch(name string) {
	d := m.next()
	if d > 127 {
		d -= 256
	}
	var taken bool
	switch name {
	case "BCC", "BCS":
		taken = m.flag(1) == (name == "BCS")
	case "BNE", "BEQ":
		taken = m.flag(2) == (name == "BEQ")
	case "BPL", "BMI":
		taken = m.flag(128) == (name == "BMI")
	default:
		taken = m.flag(64) == (name == "BVS")
	}
	if !taken {
		return
	}
	m.r(m.pc)
	to := (m.pc + d) & 0xffff
	if to/256 != m.pc/256 {
		m.r(m.pc/256*256 + to%256)
	}
	m.pc = to
}

func (m *model) implied(name string) {
	switch name {
	case "CLC", "SEC":
		m.put(1, name == "SEC")
	case "CLI", "SEI":
		m.put(4, name == "SEI")
	case "CLD", "SED":
		m.put(8, name == "SED")
	case "CLV":
		m.put(64, false)
	case "DEX":
		m.x = m.nz(m.x - 1)
	case "DEY":
		m.y = m.nz(m.y - 1)
	case "INX":
		m.x = m.nz(m.x + 1)
	case "INY":
		m.y = m.nz(m.y + 1)
	case "TAX":
		m.x = m.nz(m.a)
	case "TAY":
		m.y = m.nz(m.a)
	case "TSX":
		m.x = m.nz(m.s)
	case "TXA":
		m.a = m.nz(m.x)
	case "TYA":
		m.a = m.nz(m.y)
	case "TXS":
		m.s = m.x
	}
}

func (m *model) changed(name string, b int) int {
	c := m.p & 1
	switch name {
	case "INC":
		return m.nz(b + 1)
	case "DEC":
		return m.nz(b - 1)
	case "ASL", "ROL":
		m.put(1, b > 127)
		if name == "ASL" {
			c = 0
		}
		return m.nz(2*b + c)
	}
	m.put(1, b%2 == 1)
	if name == "LSR" {
		c = 0
	}
	return m.nz(b/2 + 128*c)
}

func (m *model) use(name string, b int) {
	switch name {
	case "LDA":
		m.a = m.nz(b)
	case "LDX":
		m.x = m.nz(b)
	case "LDY":
		m.y = m.nz(b)
	case "AND":
		m.a = m.nz(m.a & b)
	case "ORA":
		m.a = m.nz(m.a | b)
	case "EOR":
		m.a = m.nz(m.a ^ b)
	case "ADC":
		m.add(b)
	case "SBC":
		m.add(255 - b)
	case "CMP":
		m.compare(m.a, b)
	case "CPX":
		m.compare(m.x, b)
	case "CPY":
		m.compare(m.y, b)
	case "BIT":
		m.put(2, m.a&b == 0)
		m.put(128, b > 127)
		m.put(64, b%128 > 63)
	}
}

func (m *model) add(b int) {
	sum := m.a + b + m.p%2
	m.put(1, sum > 255)
	m.put(64, m.a/128 == b/128 && sum%256/128 != b/128)
	m.a = m.nz(sum)
}

func (m *model) compare(r, b int) {
	m.put(1, r >= b)
	m.nz(r - b)
}

package computer

type instruction uint8

const (
	adc instruction = iota
	and
	asl
	bcc
	bcs
	beq
	bmi
	bne
	bpl
	bvc
	bvs
	bit
	brk
	clc
	cld
	cli
	clv
	cmp
	cpx
	cpy
	dec
	dex
	dey
	eor
	inc
	inx
	iny
	jmp
	jsr
	lda
	ldx
	ldy
	lsr
	nop
	ora
	pha
	php
	pla
	plp
	rol
	ror
	rti
	rts
	sbc
	sec
	sed
	sei
	sta
	stx
	sty
	tax
	tay
	tsx
	txa
	txs
	tya
)

type kind uint8

const (
	reads kind = iota
	writes
	changes
)

func (i instruction) kind() kind {
	switch i {
	case sta, stx, sty:
		return writes
	case asl, lsr, rol, ror, inc, dec:
		return changes
	}
	return reads
}

// method gives what does the instruction, once its mode has gathered what it needs.
func (i instruction) method() func(*Computer) {
	table := [...]func(*Computer){
		adc: (*Computer).adc, and: (*Computer).and, asl: (*Computer).asl,
		bcc: (*Computer).bcc, bcs: (*Computer).bcs, beq: (*Computer).beq, bmi: (*Computer).bmi,
		bne: (*Computer).bne, bpl: (*Computer).bpl, bvc: (*Computer).bvc, bvs: (*Computer).bvs,
		bit: (*Computer).bit, brk: (*Computer).brk,
		clc: (*Computer).clc, cld: (*Computer).cld, cli: (*Computer).cli, clv: (*Computer).clv,
		cmp: (*Computer).cmp, cpx: (*Computer).cpx, cpy: (*Computer).cpy,
		dec: (*Computer).dec, dex: (*Computer).dex, dey: (*Computer).dey, eor: (*Computer).eor,
		inc: (*Computer).inc, inx: (*Computer).inx, iny: (*Computer).iny,
		jmp: (*Computer).jmp, jsr: (*Computer).jsr,
		lda: (*Computer).lda, ldx: (*Computer).ldx, ldy: (*Computer).ldy, lsr: (*Computer).lsr,
		nop: (*Computer).nop, ora: (*Computer).ora,
		pha: (*Computer).pha, php: (*Computer).php, pla: (*Computer).pla, plp: (*Computer).plp,
		rol: (*Computer).rol, ror: (*Computer).ror, rti: (*Computer).rti, rts: (*Computer).rts,
		sbc: (*Computer).sbc, sec: (*Computer).sec, sed: (*Computer).sed, sei: (*Computer).sei,
		sta: (*Computer).sta, stx: (*Computer).stx, sty: (*Computer).sty,
		tax: (*Computer).tax, tay: (*Computer).tay, tsx: (*Computer).tsx,
		txa: (*Computer).txa, txs: (*Computer).txs, tya: (*Computer).tya,
	}
	return table[i]
}

// load puts a byte where it belongs, and its N and Z.
func (c *Computer) load(to *byte, b byte) {
	*to = b
	c.setNZ(b)
}

func (c *Computer) lda() { c.load(&c.a, c.data) }
func (c *Computer) ldx() { c.load(&c.x, c.data) }
func (c *Computer) ldy() { c.load(&c.y, c.data) }
func (c *Computer) tax() { c.load(&c.x, c.a) }
func (c *Computer) tay() { c.load(&c.y, c.a) }
func (c *Computer) tsx() { c.load(&c.x, c.s) }
func (c *Computer) txa() { c.load(&c.a, c.x) }
func (c *Computer) tya() { c.load(&c.a, c.y) }
func (c *Computer) txs() { c.s = c.x }

func (c *Computer) sta() { c.data = c.a }
func (c *Computer) stx() { c.data = c.x }
func (c *Computer) sty() { c.data = c.y }

func (c *Computer) pha() { c.data = c.a }
func (c *Computer) php() { c.data = c.p | breaking }
func (c *Computer) pla() { c.load(&c.a, c.data) }
func (c *Computer) plp() { c.setP(c.data) }

func (c *Computer) and() { c.load(&c.a, c.a&c.data) }
func (c *Computer) ora() { c.load(&c.a, c.a|c.data) }
func (c *Computer) eor() { c.load(&c.a, c.a^c.data) }

func (c *Computer) adc() { c.add(c.data) }
func (c *Computer) sbc() { c.add(255 - c.data) }

func (c *Computer) add(m byte) {
	sum := int(c.a) + int(m) + int(c.p&carry)
	cut := byte(sum)
	c.set(carry, sum > 255)
	c.set(overflow, (cut^c.a)&(cut^m)&0x80 != 0)
	c.load(&c.a, cut)
}

func (c *Computer) cmp() { c.compare(c.a) }
func (c *Computer) cpx() { c.compare(c.x) }
func (c *Computer) cpy() { c.compare(c.y) }

func (c *Computer) compare(r byte) {
	c.set(carry, r >= c.data)
	c.setNZ(r - c.data)
}

func (c *Computer) bit() {
	c.set(zero, c.a&c.data == 0)
	c.set(negative, c.data&0x80 != 0)
	c.set(overflow, c.data&0x40 != 0)
}

func (c *Computer) inc() { c.load(&c.data, c.data+1) }
func (c *Computer) dec() { c.load(&c.data, c.data-1) }
func (c *Computer) inx() { c.load(&c.x, c.x+1) }
func (c *Computer) iny() { c.load(&c.y, c.y+1) }
func (c *Computer) dex() { c.load(&c.x, c.x-1) }
func (c *Computer) dey() { c.load(&c.y, c.y-1) }

func (c *Computer) asl() { c.shiftLeft(0) }
func (c *Computer) rol() { c.shiftLeft(c.p & carry) }
func (c *Computer) lsr() { c.shiftRight(0) }
func (c *Computer) ror() { c.shiftRight(c.p & carry) }

func (c *Computer) shiftLeft(in byte) {
	c.set(carry, c.data&0x80 != 0)
	c.load(&c.data, c.data<<1|in)
}

func (c *Computer) shiftRight(in byte) {
	c.set(carry, c.data&1 != 0)
	c.load(&c.data, c.data>>1|in<<7)
}

func (c *Computer) bcc() { c.taken = !c.has(carry) }
func (c *Computer) bcs() { c.taken = c.has(carry) }
func (c *Computer) bne() { c.taken = !c.has(zero) }
func (c *Computer) beq() { c.taken = c.has(zero) }
func (c *Computer) bpl() { c.taken = !c.has(negative) }
func (c *Computer) bmi() { c.taken = c.has(negative) }
func (c *Computer) bvc() { c.taken = !c.has(overflow) }
func (c *Computer) bvs() { c.taken = c.has(overflow) }

func (c *Computer) clc() { c.set(carry, false) }
func (c *Computer) sec() { c.set(carry, true) }
func (c *Computer) cli() { c.set(noIRQ, false) }
func (c *Computer) sei() { c.set(noIRQ, true) }
func (c *Computer) clv() { c.set(overflow, false) }
func (c *Computer) cld() { c.set(decimal, false) }
func (c *Computer) sed() { c.set(decimal, true) }

func (c *Computer) nop() {}

func (c *Computer) jmp() { c.pc = c.at }
func (c *Computer) jsr() { c.pc = c.at }
func (c *Computer) rts() { c.pc = c.at + 1 }

func (c *Computer) rti() {
	c.setP(c.data)
	c.pc = c.at
}

// brk ends the sequences of NMI and IRQ, too.
func (c *Computer) brk() {
	c.set(noIRQ, true)
	c.pc = c.at
}

package computer

type opcode struct {
	instruction instruction
	mode        mode
}

// decode gives the mode none for an opcode that jams.
func decode(code byte) opcode {
	table := [256]opcode{
		0x69: {adc, imm}, 0x65: {adc, zp}, 0x75: {adc, zpx}, 0x6d: {adc, abs}, 0x7d: {adc, abx},
		0x79: {adc, aby}, 0x61: {adc, izx}, 0x71: {adc, izy},
		0x29: {and, imm}, 0x25: {and, zp}, 0x35: {and, zpx}, 0x2d: {and, abs}, 0x3d: {and, abx},
		0x39: {and, aby}, 0x21: {and, izx}, 0x31: {and, izy},
		0x0a: {asl, acc}, 0x06: {asl, zp}, 0x16: {asl, zpx}, 0x0e: {asl, abs}, 0x1e: {asl, abx},
		0x24: {bit, zp}, 0x2c: {bit, abs},
		0xc9: {cmp, imm}, 0xc5: {cmp, zp}, 0xd5: {cmp, zpx}, 0xcd: {cmp, abs}, 0xdd: {cmp, abx},
		0xd9: {cmp, aby}, 0xc1: {cmp, izx}, 0xd1: {cmp, izy},
		0xe0: {cpx, imm}, 0xe4: {cpx, zp}, 0xec: {cpx, abs},
		0xc0: {cpy, imm}, 0xc4: {cpy, zp}, 0xcc: {cpy, abs},
		0xc6: {dec, zp}, 0xd6: {dec, zpx}, 0xce: {dec, abs}, 0xde: {dec, abx},
		0x49: {eor, imm}, 0x45: {eor, zp}, 0x55: {eor, zpx}, 0x4d: {eor, abs}, 0x5d: {eor, abx},
		0x59: {eor, aby}, 0x41: {eor, izx}, 0x51: {eor, izy},
		0xe6: {inc, zp}, 0xf6: {inc, zpx}, 0xee: {inc, abs}, 0xfe: {inc, abx},
		0x4c: {jmp, jumpAbs}, 0x6c: {jmp, jumpInd},
		0xa9: {lda, imm}, 0xa5: {lda, zp}, 0xb5: {lda, zpx}, 0xad: {lda, abs}, 0xbd: {lda, abx},
		0xb9: {lda, aby}, 0xa1: {lda, izx}, 0xb1: {lda, izy},
		0xa2: {ldx, imm}, 0xa6: {ldx, zp}, 0xb6: {ldx, zpy}, 0xae: {ldx, abs}, 0xbe: {ldx, aby},
		0xa0: {ldy, imm}, 0xa4: {ldy, zp}, 0xb4: {ldy, zpx}, 0xac: {ldy, abs}, 0xbc: {ldy, abx},
		0x4a: {lsr, acc}, 0x46: {lsr, zp}, 0x56: {lsr, zpx}, 0x4e: {lsr, abs}, 0x5e: {lsr, abx},
		0x09: {ora, imm}, 0x05: {ora, zp}, 0x15: {ora, zpx}, 0x0d: {ora, abs}, 0x1d: {ora, abx},
		0x19: {ora, aby}, 0x01: {ora, izx}, 0x11: {ora, izy},
		0x2a: {rol, acc}, 0x26: {rol, zp}, 0x36: {rol, zpx}, 0x2e: {rol, abs}, 0x3e: {rol, abx},
		0x6a: {ror, acc}, 0x66: {ror, zp}, 0x76: {ror, zpx}, 0x6e: {ror, abs}, 0x7e: {ror, abx},
		0xe9: {sbc, imm}, 0xe5: {sbc, zp}, 0xf5: {sbc, zpx}, 0xed: {sbc, abs}, 0xfd: {sbc, abx},
		0xf9: {sbc, aby}, 0xe1: {sbc, izx}, 0xf1: {sbc, izy},
		0x85: {sta, zp}, 0x95: {sta, zpx}, 0x8d: {sta, abs}, 0x9d: {sta, abx}, 0x99: {sta, aby},
		0x81: {sta, izx}, 0x91: {sta, izy},
		0x86: {stx, zp}, 0x96: {stx, zpy}, 0x8e: {stx, abs},
		0x84: {sty, zp}, 0x94: {sty, zpx}, 0x8c: {sty, abs},
		0x90: {bcc, rel}, 0xb0: {bcs, rel}, 0xf0: {beq, rel}, 0x30: {bmi, rel}, 0xd0: {bne, rel},
		0x10: {bpl, rel}, 0x50: {bvc, rel}, 0x70: {bvs, rel}, 0x00: {brk, breakSequence}, 0x18: {clc, imp},
		0xd8: {cld, imp}, 0x58: {cli, imp}, 0xb8: {clv, imp}, 0xca: {dex, imp}, 0x88: {dey, imp},
		0xe8: {inx, imp}, 0xc8: {iny, imp}, 0x20: {jsr, call}, 0xea: {nop, imp}, 0x48: {pha, push},
		0x08: {php, push}, 0x68: {pla, pull}, 0x28: {plp, pull}, 0x40: {rti, interruptEnd}, 0x60: {rts, callEnd},
		0x38: {sec, imp}, 0xf8: {sed, imp}, 0x78: {sei, imp}, 0xaa: {tax, imp}, 0xa8: {tay, imp},
		0xba: {tsx, imp}, 0x8a: {txa, imp}, 0x9a: {txs, imp}, 0x98: {tya, imp},
	}
	return table[code]
}

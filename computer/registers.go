package computer

// The flags, from bit 0 up.
const (
	carry byte = 1 << iota
	zero
	noIRQ
	decimal
	breaking
	always
	overflow
	negative
)

type registers struct {
	a, x, y, s, p byte
	pc            uint16
}

func (r *registers) has(flag byte) bool { return r.p&flag != 0 }

func (r *registers) set(flag byte, on bool) {
	r.p &^= flag
	if on {
		r.p |= flag
	}
}

func (r *registers) setNZ(b byte) {
	r.set(negative, b&0x80 != 0)
	r.set(zero, b == 0)
}

// setP keeps the two bits that no pulled byte may change.
func (r *registers) setP(b byte) { r.p = b&^breaking | always }

func join(low, high byte) uint16 { return uint16(high)<<8 | uint16(low) }

func lowOf(at uint16) byte { return byte(at) }

func highOf(at uint16) byte { return byte(at >> 8) }

// within moves an address, but never out of its page.
func within(at uint16, by byte) uint16 { return join(lowOf(at)+by, highOf(at)) }

package stylet_test

import (
	"math/rand/v2"
	"testing"

	"stylet/api"
	"stylet/stylet"
)

// randomConfig favours bytes that are opcodes, and addresses at edges, so that
// runs are long and odd things happen in them.
func randomConfig(r *rand.Rand, codes []byte) api.Config {
	places := []int{0x0000, 0x0100, 0x0200, 0xcf00, 0xfe00, 0xff80, r.IntN(65536)}
	c := api.Config{Rom: []int{256, 256, 256, 255, 2, 1, 0, r.IntN(257)}[r.IntN(8)]}
	for _, at := range places {
		c.Chunks = append(c.Chunks, api.Chunk{At: at, Bytes: randomBytes(r, codes)})
	}
	start := places[r.IntN(len(places))] + r.IntN(300)
	irq := places[r.IntN(len(places))] + r.IntN(300)
	c.Chunks = append(c.Chunks, chunk(0xfffc, byte(start), byte(start>>8), byte(irq), byte(irq>>8)))
	return c
}

func randomBytes(r *rand.Rand, codes []byte) []byte {
	list := make([]byte, 0, 580)
	for len(list) < 560 {
		switch r.IntN(24) {
		case 0:
			list = append(list, codes[r.IntN(len(codes))], byte(r.IntN(2)), 0xd0)
		case 1:
			list = append(list, 0x58)
		case 2:
			list = append(list, byte(r.IntN(256)))
		default:
			list = append(list, codes[r.IntN(len(codes))])
		}
	}
	return list
}

func randomPins(r *rand.Rand, count int) (nmi, irq []bool) {
	nmiOn, irqOn := false, false
	often := 2 + r.IntN(60)
	for range count {
		if r.IntN(often) == 0 {
			nmiOn = !nmiOn
		}
		if r.IntN(often) == 0 {
			irqOn = !irqOn
		}
		nmi, irq = append(nmi, nmiOn), append(irq, irqOn)
	}
	return nmi, irq
}

// checkModel holds a computer against the model, behind every cycle.
func checkModel(t *testing.T, m *stylet.Machine, mod *model, count int, pins func(int) (bool, bool)) bool {
	t.Helper()
	mod.run(count)
	for i, want := range mod.moments[:min(count, len(mod.moments))] {
		bus, ok := m.Cycle(pins(i))
		got := moment{bus, m.Regs(), m.Peek(0xd000), m.Peek(0xd001)}
		if !ok || got != want {
			t.Errorf("cycle %d:\n got %+v, %v\nwant %+v", i, got, ok, want)
			return false
		}
	}
	if last := mod.moments[len(mod.moments)-1]; last.regs.Jam {
		if bus, ok := m.Cycle(true, true); ok || bus != (api.Bus{}) || m.Regs() != last.regs {
			t.Errorf("behind a jam: Cycle = %+v, %v; Regs = %+v", bus, ok, m.Regs())
			return false
		}
	}
	return true
}

func checkMemory(t *testing.T, m *stylet.Machine, mod *model) bool {
	t.Helper()
	for at, want := range mod.memory {
		if at != 0xd000 && at != 0xd001 && m.Peek(at) != want {
			t.Errorf("Peek(%#x) = %d, want %d", at, m.Peek(at), want)
			return false
		}
	}
	return true
}

func TestP3P4RandomProgramsAsTheModel(t *testing.T) {
	table := opcodes()
	var codes []byte
	for code := range 256 {
		if _, ok := table[byte(code)]; ok {
			codes = append(codes, byte(code))
		}
	}
	seen := map[byte]int{}
	interrupts, calls, jams := 0, 0, 0
	for seed := range uint64(300) {
		r := rand.New(rand.NewPCG(seed, 6502))
		c := randomConfig(r, codes)
		const count = 3000
		nmi, irq := randomPins(r, 2*count)
		pins := func(i int) (bool, bool) { return nmi[i], irq[i] }
		mod := newModel(c, table, pins)
		m := newMachine(t, c)
		if !checkModel(t, m, mod, count, pins) {
			t.Fatalf("seed %d", seed)
		}
		// the model may be some cycles ahead, in the midst of the last instruction
		for i := min(count, len(mod.moments)); i < len(mod.moments); i++ {
			m.Cycle(pins(i))
		}
		if !checkMemory(t, m, mod) {
			t.Fatalf("seed %d", seed)
		}
		for code, times := range mod.seen {
			seen[code] += times
		}
		for _, at := range mod.moments {
			if at.bus.Addr == 0xfffa {
				interrupts++
			}
			if at.calls == 128 {
				calls++
			}
			if at.regs.Jam {
				jams++
			}
		}
	}
	if len(seen) != len(codes) || interrupts < 100 || calls < 100 || jams < 10 {
		t.Errorf("too tame: %d of %d opcodes, %d NMIs, %d cycles with a calling timer, %d jams", len(seen), len(codes), interrupts, calls, jams)
	}
}

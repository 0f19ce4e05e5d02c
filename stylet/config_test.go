package stylet_test

import (
	"bytes"
	"math"
	"slices"
	"testing"

	"stylet/api"
	"stylet/stylet"
)

func zeros(at, count int) api.Chunk { return api.Chunk{At: at, Bytes: make([]byte, count)} }

func TestP2ConfigurationsThatAreTaken(t *testing.T) {
	for i, c := range []api.Config{
		{},
		{Chunks: []api.Chunk{}},
		config(1),
		config(256),
		config(0, chunk(0)),
		config(0, api.Chunk{At: 65535}),
		config(0, zeros(0, api.MaxBytes)),
		config(0, zeros(65535, api.MaxBytes)),
		config(0, zeros(0, api.MaxBytes-1), zeros(0, 1), zeros(0, 0)),
		{Chunks: make([]api.Chunk, api.MaxChunks)},
	} {
		if m, e := stylet.New(c); m == nil || e != api.OK {
			t.Errorf("case %d: New = %v, %d, want a computer", i, m != nil, e)
		}
	}
}

func TestP2ConfigurationsThatAreRefused(t *testing.T) {
	cases := []api.Config{
		config(0, zeros(0, api.MaxBytes+1)),
		config(0, zeros(0, api.MaxBytes), zeros(0, 1)),
		config(0, zeros(0, 1), zeros(0, api.MaxBytes)),
		{Chunks: make([]api.Chunk, api.MaxChunks+1)},
		config(256, zeros(0, 1), zeros(-1, 1), zeros(0, 1)),
	}
	for _, rom := range []int{-1, 257, 65536, math.MinInt, math.MaxInt} {
		cases = append(cases, config(rom))
	}
	for _, at := range []int{-1, 65536, 1 << 32, math.MinInt, math.MaxInt} {
		cases = append(cases, config(0, zeros(at, 0)), config(0, zeros(at, 3)))
	}
	for i, c := range cases {
		if m, e := stylet.New(c); m != nil || e != api.ErrConfig {
			t.Errorf("case %d: New = %v, %d, want nothing and ErrConfig", i, m != nil, e)
		}
	}
}

func TestP2ChunksStandInMemory(t *testing.T) {
	m := newMachine(t, config(0,
		chunk(0x300, 1, 2, 3, 4),
		chunk(0x302, 9),
		chunk(0xfffe, 5, 6, 7, 8),
		chunk(0x0001, 10),
	))
	for at, want := range map[int]int{
		0x2ff: 0, 0x300: 1, 0x301: 2, 0x302: 9, 0x303: 4, 0x304: 0,
		0xfffd: 0, 0xfffe: 5, 0xffff: 6, 0: 7, 1: 10, 2: 0,
	} {
		checkPeek(t, "chunks", m, at, want)
	}
}

func TestP2ChunkBehindTheTimer(t *testing.T) {
	m := newMachine(t, config(256, chunk(0xcfff, 0xea, 3, 0xff, 0xea), chunk(0xfffc, 0xff, 0xcf)))
	checkPeek(t, "at first", m, 0xcfff, 0xea)
	checkPeek(t, "at first", m, 0xd000, 0)
	checkPeek(t, "at first", m, 0xd001, 0)
	checkPeek(t, "at first", m, 0xd002, 0xea)
	checkCycles(t, "NOP ahead of the timer, BRK in it", m, "fcfff:ea rd000:00 fd000:00 rd001:00 w01fd:d0")
}

func TestP1ConfigurationIsNeitherKeptNorWritten(t *testing.T) {
	code := []byte{0xe6, 0x10, 0x4c, 0x00, 0x02, 77, 78, 79}
	chunks := make([]api.Chunk, 2, 4)
	chunks[0] = api.Chunk{At: 0x200, Bytes: code[:5]}
	chunks[1] = vectors
	spare := api.Chunk{At: 1, Bytes: []byte{1}}
	chunks[:3][2] = spare
	before := slices.Clone(code)
	m := newMachine(t, api.Config{Chunks: chunks, Rom: 256})
	other := newMachine(t, api.Config{Chunks: chunks, Rom: 256})
	run(m, 100)
	if !bytes.Equal(code, before) || chunks[0].At != 0x200 || len(chunks[0].Bytes) != 5 || chunks[:3][2].At != 1 {
		t.Error("New or Cycle writes into the configuration")
	}
	clear(code)
	clear(chunks)
	checkPeek(t, "chunks changed behind New", m, 0x200, 0xe6)
	checkCycles(t, "chunks changed behind New", other, "f0200:e6 r0201:10 r0010:00 w0010:00 w0010:01 f0202:4c")
}

func TestP1ComputersDoNotChangeOneAnother(t *testing.T) {
	// INC $10, STX $D000, INX, JMP $200
	c := config(256, vectors, chunk(0x200, 0xe6, 0x10, 0x8e, 0x00, 0xd0, 0xe8, 0x4c, 0x00, 0x02))
	one, two := newMachine(t, c), newMachine(t, c)
	run(one, 1000)
	checkRegs(t, "a second one", two, api.Regs{S: 0xfd, P: 0x24, PC: 0x200})
	checkPeek(t, "a second one", two, 0x10, 0)
	third := *one
	regs, byte16, count := one.Regs(), one.Peek(0x10), one.Peek(0xd000)
	run(&third, 777)
	checkRegs(t, "a copied one", one, regs)
	checkPeek(t, "a copied one", one, 0x10, byte16)
	checkPeek(t, "a copied one", one, 0xd000, count)
}

package computer

import "stylet/api"

const (
	timerCount = 0xd000
	timerCall  = 0xd001

	nmiVector   = 0xfffa
	resetVector = 0xfffc
	irqVector   = 0xfffe
)

const (
	pageSize   = 256
	pages      = 256
	memorySize = pages * pageSize
)

type timer struct {
	count byte
	calls bool
}

func (t *timer) tick() {
	if t.count == 0 {
		return
	}
	t.count--
	if t.count == 0 {
		t.calls = true
	}
}

type bus struct {
	memory [memorySize]byte
	rom    int // the first address that the processor does not change
	timer  timer
}

func valid(config api.Config) bool {
	if config.Rom < 0 || config.Rom > pages || len(config.Chunks) > api.MaxChunks {
		return false
	}
	room := api.MaxBytes
	for _, chunk := range config.Chunks {
		room -= len(chunk.Bytes)
		if chunk.At < 0 || chunk.At >= memorySize || room < 0 {
			return false
		}
	}
	return true
}

func (b *bus) fill(config api.Config) {
	b.rom = config.Rom * pageSize
	for _, chunk := range config.Chunks {
		for i, data := range chunk.Bytes {
			b.memory[(chunk.At+i)%memorySize] = data
		}
	}
}

// look tells a byte and changes nothing.
func (b *bus) look(at uint16) byte {
	switch at {
	case timerCount:
		return b.timer.count
	case timerCall:
		if b.timer.calls {
			return 128
		}
		return 0
	}
	return b.memory[at]
}

func (b *bus) read(at uint16) api.Bus {
	data := b.look(at)
	if at == timerCall {
		b.timer.calls = false
	}
	return api.Bus{Addr: int(at), Data: int(data)}
}

func (b *bus) write(at uint16, data byte) api.Bus {
	switch {
	case at == timerCount:
		b.timer.count = data
	case at != timerCall && int(at) < b.rom:
		b.memory[at] = data
	}
	return api.Bus{Addr: int(at), Data: int(data), Write: true}
}

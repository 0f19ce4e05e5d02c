package stub

import "stylet/api"

const maxPatchBytes = 8

type patch struct {
	turn  int
	at    uint16
	bytes [maxPatchBytes]byte // no slice, so that a copied Stub shares nothing
	count int
}

// patches are those that wait, as a heap: none has an earlier turn than its
// parent, so that the next one lies at 0.
type patches struct {
	heap  [api.MaxPatches]patch
	count int
}

func (p *patches) full() bool { return p.count == api.MaxPatches }

func (p *patches) put(one patch) {
	p.heap[p.count] = one
	p.rise(p.count)
	p.count++
}

func (p *patches) take() patch {
	first := p.heap[0]
	p.count--
	p.heap[0] = p.heap[p.count]
	p.sink(0)
	return first
}

func (p *patches) earlier(i, j int) bool { return p.heap[i].turn < p.heap[j].turn }

func (p *patches) swap(i, j int) { p.heap[i], p.heap[j] = p.heap[j], p.heap[i] }

func (p *patches) rise(i int) {
	for i > 0 {
		parent := (i - 1) / 2
		if !p.earlier(i, parent) {
			return
		}
		p.swap(i, parent)
		i = parent
	}
}

func (p *patches) sink(i int) {
	for 2*i+1 < p.count {
		child := 2*i + 1
		if child+1 < p.count && p.earlier(child+1, child) {
			child++
		}
		if !p.earlier(child, i) {
			return
		}
		p.swap(i, child)
		i = child
	}
}

// addPatch lets every patch wait, be it only until it is settled at once: so
// there is one way into memory.
func (s *Stub) addPatch(at uint16, list []byte) string {
	if len(list) < 1 || len(list) > maxPatchBytes {
		return outside
	}
	if s.patches.full() {
		return noRoom
	}
	// All that wait are done together: how many wait is a turn behind theirs.
	one := patch{turn: s.patches.count, at: at, count: len(list)}
	copy(one.bytes[:], list)
	s.patches.put(one)
	s.settle()
	return done
}

// settle does the patches that wait, unless an instruction is still under way.
func (s *Stub) settle() {
	for s.between() && s.patches.count > 0 {
		s.write(s.patches.take())
	}
}

func (s *Stub) write(one patch) {
	for i, data := range one.bytes[:one.count] {
		s.computer.Poke(one.at+uint16(i), data)
	}
}

package stylet_test

import (
	"fmt"
	"iter"
	"math/rand/v2"
	"regexp"
	"slices"
	"strconv"
	"strings"
	"testing"

	"stylet/api"
)

// stepper does the model's cycles one by one: the model runs on in a
// coroutine, and is held up whenever it asks for the pins.
type stepper struct {
	*model
	nmi, irq  bool
	atFetch   bool
	hasJammed bool
	over      bool
	resume    func() (struct{}, bool)
	stop      func()
}

func newStepper(c api.Config, table map[byte]opcode) *stepper {
	s := &stepper{}
	s.resume, s.stop = iter.Pull(func(yield func(struct{}) bool) {
		s.model = newModel(c, table, func(int) (bool, bool) {
			s.over = s.over || !yield(struct{}{})
			s.atFetch = false
			return s.nmi, s.irq
		})
		for s.atFetch = true; !s.over && s.instruction(); s.atFetch = true {
			s.behind = s.regs()
		}
		s.hasJammed = true
	})
	s.resume() // up to the first cycle
	return s
}

// step does a cycle of one that has not jammed.
func (s *stepper) step() api.Bus {
	s.resume()
	return s.moments[len(s.moments)-1].bus
}

func (s *stepper) peek(at int) int {
	switch at &= 0xffff; at {
	case 0xd000:
		return s.count
	case 0xd001:
		return s.call()
	}
	return s.memory[at]
}

// stubModel is a second stub, written as the document's table is.
type stubModel struct {
	*stepper
	due         int
	last        string
	breakpoints map[int]bool
	watches     map[int]bool
	waiting     [][]int
	recording   bool
	recorded    []string
	told        map[string]int // replies, and how often
}

func newStubModel(c api.Config, table map[byte]opcode) *stubModel {
	return &stubModel{stepper: newStepper(c, table), breakpoints: map[int]bool{}, watches: map[int]bool{}, told: map[string]int{}}
}

func (s *stubModel) feed(text string) string {
	var answers string
	for _, p := range scanWhole(text) {
		switch {
		case p.Bad:
			answers += "-"
		case p.Seq == s.due:
			reply := s.command(p.Body)
			s.told[p.Body[:min(1, len(p.Body))]+reply[:min(2, len(reply))]]++
			s.last = "+" + framed(s.due, reply)
			s.due = (s.due + 1) % 256
			answers += s.last
		case s.last != "" && p.Seq == (s.due+255)%256:
			answers += s.last
		default:
			answers += "?"
		}
	}
	return answers
}

var commandForm = regexp.MustCompile(`^(?:([gq])|([bdvxsi])([[:xdigit:]]{4})|(m)([[:xdigit:]]{4})([[:xdigit:]]{2})|(w)([[:xdigit:]]{4})((?:[[:xdigit:]]{2})*)|(t)([01])|(p)([0-3]))$`)

func (s *stubModel) command(body string) string {
	words := commandForm.FindStringSubmatch(body)
	if words == nil {
		return "E1"
	}
	words = slices.DeleteFunc(words[1:], func(w string) bool { return w == "" })
	var n [2]int
	for i, word := range words[1:] {
		if value, err := strconv.ParseUint(word, 16, 16); err == nil {
			n[i] = int(value)
		}
	}
	switch words[0] {
	case "g":
		r := s.behind
		return fmt.Sprintf("%02x%02x%02x%02x%02x%04x%08x", r.A, r.X, r.Y, r.S, r.P, r.PC, len(s.moments))
	case "m":
		return s.memoryTold(n[0], n[1])
	case "w":
		return s.patched(n[0], strings.Join(words[2:], ""))
	case "b":
		return add(s.breakpoints, n[0])
	case "d":
		return remove(s.breakpoints, n[0])
	case "v":
		return add(s.watches, n[0])
	case "x":
		return remove(s.watches, n[0])
	case "s":
		return s.going(func(cycles, instructions int) bool { return cycles == n[0] })
	case "i":
		if n[0] > 0xfff {
			return "E2"
		}
		return s.going(func(cycles, instructions int) bool { return instructions == n[0] })
	case "q":
		count := min(8, len(s.recorded))
		reply := strings.Join(s.recorded[:count], "")
		s.recorded = s.recorded[count:]
		return reply
	case "t":
		s.recording = n[0] == 1
	case "p":
		s.nmi, s.irq = n[0]%2 == 1, n[0]/2 == 1
	}
	return "OK"
}

func (s *stubModel) memoryTold(at, count int) string {
	if count < 1 || count > 32 {
		return "E2"
	}
	var reply string
	for i := range count {
		reply += fmt.Sprintf("%02x", s.peek(at+i))
	}
	return reply
}

func add(set map[int]bool, at int) string {
	if !set[at] && len(set) == api.MaxPoints {
		return "E4"
	}
	set[at] = true
	return "OK"
}

func remove(set map[int]bool, at int) string {
	if !set[at] {
		return "E5"
	}
	delete(set, at)
	return "OK"
}

func (s *stubModel) patched(at int, digits string) string {
	if digits == "" || len(digits) > 16 {
		return "E2"
	}
	if len(s.waiting) == api.MaxPatches {
		return "E4"
	}
	one := []int{at}
	for pair := range slices.Chunk([]byte(digits), 2) {
		value, _ := strconv.ParseUint(string(pair), 16, 8)
		one = append(one, int(value))
	}
	s.waiting = append(s.waiting, one)
	s.settle()
	return "OK"
}

func (s *stubModel) settle() {
	if !s.atFetch && !s.hasJammed {
		return
	}
	for _, one := range s.waiting {
		for i, b := range one[1:] {
			s.memory[(one[0]+i)&0xffff] = b
		}
	}
	s.waiting = nil
}

func (s *stubModel) going(enough func(cycles, instructions int) bool) string {
	cycles, instructions, reason := 0, 0, -1
	for reason < 0 {
		switch {
		case enough(cycles, instructions):
			reason = 0
		case s.atFetch && s.breakpoints[s.pc] && cycles > 0:
			reason = 1
		case s.hasJammed:
			reason = 3
		case s.recording && len(s.recorded) == api.Ring:
			reason = 4
		default:
			bus := s.step()
			cycles++
			if s.recording {
				word := told(bus, true)
				s.recorded = append(s.recorded, word[1:5]+word[6:]+word[:1])
			}
			if s.atFetch || s.hasJammed {
				instructions++
			}
			s.settle()
			if s.watches[bus.Addr] {
				reason = 2
			}
		}
	}
	return fmt.Sprintf("T%d%06x", reason, cycles)
}

// randomBody gives a command, mostly a right one.
func randomBody(r *rand.Rand, s *stubModel) string {
	at := func() int {
		near := []int{s.pc, s.pc + r.IntN(12), s.behind.PC + r.IntN(4), 0x100 + s.s, r.IntN(256), 0xd000 + r.IntN(2), 0xfffa + r.IntN(6), r.IntN(65536)}
		return near[r.IntN(len(near))] & 0xffff
	}
	known := func(set map[int]bool) int {
		if len(set) > 0 && r.IntN(4) > 0 {
			return slices.Sorted(mapKeys(set))[r.IntN(len(set))]
		}
		return at()
	}
	few := func() int { return []int{r.IntN(4), r.IntN(12), r.IntN(12), r.IntN(100), r.IntN(400)}[r.IntN(5)] }
	var body string
	switch r.IntN(16) {
	case 0:
		body = "g"
	case 1:
		body = fmt.Sprintf("m%04x%02x", at(), r.IntN(0x23))
	case 2, 3, 4:
		body = fmt.Sprintf("w%04x%x", at(), randomBytes(r, []byte{0xea, 0xee, 0x4c, 0x58, 0x01})[:[]int{1, 2, 3, 8, r.IntN(11)}[r.IntN(5)]])
	case 5:
		body = fmt.Sprintf("b%04x", at())
	case 6:
		body = fmt.Sprintf("d%04x", known(s.breakpoints))
	case 7:
		body = fmt.Sprintf("v%04x", at())
	case 8:
		body = fmt.Sprintf("x%04x", known(s.watches))
	case 9, 10:
		body = fmt.Sprintf("s%04x", few())
	case 11:
		body = fmt.Sprintf("i%04x", []int{few(), few(), few(), r.IntN(0x2000)}[r.IntN(4)])
	case 12:
		body = fmt.Sprintf("t%d", r.IntN(2))
	case 13, 14:
		body = "q"
	case 15:
		body = fmt.Sprintf("p%d", r.IntN(4))
	}
	switch r.IntN(40) {
	case 0:
		return body[:r.IntN(len(body))]
	case 1:
		return body + string([]byte{byte(r.IntN(256))})
	case 2:
		return body[:1] + strings.ToUpper(body[1:])
	}
	return body
}

func mapKeys(set map[int]bool) iter.Seq[int] {
	return func(yield func(int) bool) {
		for key := range set {
			if !yield(key) {
				return
			}
		}
	}
}

// overTheWire loses, spoils and repeats packets. What begins behind it begins
// outside of a packet, whatever was lost.
func overTheWire(r *rand.Rand, due int, body string) string {
	const outsideAgain = "$#00"
	packet := framed(due, body)
	switch r.IntN(12) {
	case 0:
		i := r.IntN(len(packet))
		return packet[:i] + packet[i+1:] + outsideAgain
	case 1:
		i := r.IntN(len(packet))
		return packet[:i] + string([]byte{packet[i] ^ 1<<r.IntN(8)}) + packet[i+1:] + outsideAgain
	case 2:
		return packet + packet
	case 3:
		return framed(r.IntN(256), body) + packet
	case 4:
		return framed((due+255)%256, body)
	}
	return packet
}

func TestP7RandomCommandsAsTheModel(t *testing.T) {
	table := opcodes()
	var codes []byte
	for code := range 256 {
		if _, ok := table[byte(code)]; ok {
			codes = append(codes, byte(code))
		}
	}
	told := map[string]int{}
	for seed := range uint64(150) {
		r := rand.New(rand.NewPCG(seed, 7))
		c := randomConfig(r, codes)
		want, got := newStubModel(c, table), newTalk(t, c)
		for i := range 400 {
			text := overTheWire(r, want.due, randomBody(r, want))
			cut := r.IntN(len(text) + 1)
			answer := got.feed(text[:cut]) + got.feed(text[cut:])
			if expected := want.feed(text); answer != expected {
				t.Fatalf("seed %d, text %d: %q: %q, want %q", seed, i, text, answer, expected)
			}
		}
		want.stop()
		for key, times := range want.told {
			told[key] += times
		}
	}
	for _, key := range []string{"E1", "mE2", "wOK", "wE1", "wE2", "wE4", "bOK", "bE4", "dOK", "dE5", "vOK", "vE4", "xOK", "xE5",
		"sT0", "sT1", "sT2", "sT3", "sT4", "iT0", "iT1", "iT2", "iT3", "iT4", "iE2", "q", "tOK", "pOK"} {
		if told[key] < 20 {
			t.Errorf("too tame: %q only %d times", key, told[key])
		}
	}
}

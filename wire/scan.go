package wire

import (
	"stylet/api"
	"stylet/hex"
)

type state uint8

const (
	outside   state = iota // first, so that a zero Scanner is a fresh one
	inside                 // behind a $
	firstSum               // behind the #
	secondSum              // behind the first byte of the sum
)

// Scanner finds packets among bytes that come in pieces.
type Scanner struct {
	state state
	raw   [api.MaxRaw]byte // no slice, so that a copied Scanner shares nothing
	count int              // how many bytes of raw are gathered
	sum   byte             // the first byte behind the #, as it came
}

// Feed gives the packets that b ends.
func (s *Scanner) Feed(b []byte) []api.Packet {
	var packets []api.Packet
	for _, c := range b {
		if s.take(c) {
			packets = append(packets, readPacket(s.raw[:s.count], s.sum, c))
		}
	}
	return packets
}

// take says whether c ends a packet, be it good or bad.
func (s *Scanner) take(c byte) bool {
	switch s.state {
	case outside:
		if c == start {
			s.begin()
		}
	case inside:
		s.gather(c)
	case firstSum:
		s.sum = c
		s.state = secondSum
	case secondSum:
		s.state = outside
		return true
	}
	return false
}

func (s *Scanner) begin() {
	s.state = inside
	s.count = 0
}

func (s *Scanner) gather(c byte) {
	switch {
	case c == start:
		s.begin()
	case c == end:
		s.state = firstSum
	case s.count == api.MaxRaw:
		s.state = outside
	default:
		s.raw[s.count] = c
		s.count++
	}
}

func readPacket(raw []byte, high, low byte) api.Packet {
	bad := api.Packet{Bad: true}
	total, ok := hex.Byte(high, low)
	if !ok || total != sum(raw) || len(raw) < 2 {
		return bad
	}
	seq, ok := hex.Byte(raw[0], raw[1])
	if !ok {
		return bad
	}
	body, ok := unescape(raw[2:])
	if !ok || len(body) > api.MaxBody {
		return bad
	}
	return api.Packet{Seq: int(seq), Body: body}
}

// Package stub does the commands that come over a wire, each of them once.
package stub

import (
	"stylet/api"
	"stylet/computer"
	"stylet/wire"
)

// What an answer begins with, or is.
const (
	heard  = '+'
	spoilt = '-'
	astray = '?'
)

// Stub holds all by value, so that a copied one shares nothing.
type Stub struct {
	computer computer.Computer
	scanner  wire.Scanner

	due   byte   // the number of the next command
	begun bool   // there was a command
	reply string // to the last one

	breakpoints points
	watches     points
	patches     patches
	records     records
	recording   bool
	nmi, irq    bool
}

// Start makes a zero Stub a fresh one; with an error it is none.
func (s *Stub) Start(config api.Config) api.Errno { return s.computer.Start(config) }

// Feed gives the answers to the packets that b ends.
func (s *Stub) Feed(b []byte) []byte {
	var answers []byte
	for _, packet := range s.scanner.Feed(b) {
		answers = append(answers, s.answer(packet)...)
	}
	return answers
}

func (s *Stub) answer(packet api.Packet) []byte {
	switch {
	case packet.Bad:
		return []byte{spoilt}
	case packet.Seq == int(s.due):
		s.reply = s.do(packet.Body)
		s.begun = true
		s.due++
	case !s.begun || packet.Seq != int(s.due-1):
		return []byte{astray}
	}
	// no reply is too long to be a body
	answer, _ := wire.Frame(packet.Seq, s.reply)
	return append([]byte{heard}, answer...)
}

package stylet_test

import (
	"fmt"
	"math"
	"strings"
	"testing"

	"stylet/api"
	"stylet/stylet"
)

// packed writes a packet of raw bytes by the document's words, with the right sum.
func packed(raw string) string {
	total := 0
	for i := range len(raw) {
		total += int(raw[i])
	}
	return fmt.Sprintf("$%s#%02x", raw, total%256)
}

func TestP5FrameGivesThePacket(t *testing.T) {
	for _, c := range []struct {
		seq  int
		body string
		want string
	}{
		{0, "g", "$00g#c7"},
		{255, "a}", "$ffa}]#07"},
		{1, "i0002", "$01i0002#8c"},
		{5, "g", "$05g#cc"},
		{1, "T0000004", "$01T0000004#09"},
		{0, "", "$00#60"},
		{16, "", "$10#61"},
		{0, "000000fd24020000000000", "$00000000fd24020000000000#f2"},
		{0xab, "$", packed("ab}\x04")},
		{0xcd, "#", packed("cd}\x03")},
		{0xef, "}", packed("ef}]")},
		{9, "}}]$#", packed("09}]}]]}\x04}\x03")},
		{2, "\x00\xff\n+-?", packed("02\x00\xff\n+-?")},
		{3, "é", packed("03\xc3\xa9")},
	} {
		packet, e := stylet.Frame(c.seq, c.body)
		if e != api.OK || string(packet) != c.want {
			t.Errorf("Frame(%d, %q) = %q, %d, want %q, OK", c.seq, c.body, packet, e, c.want)
		}
	}
}

func TestP5FrameWritesEveryNumberAndByte(t *testing.T) {
	for n := range 256 {
		packet, e := stylet.Frame(n, "")
		if want := packed(fmt.Sprintf("%02x", n)); e != api.OK || string(packet) != want {
			t.Errorf("Frame(%d, \"\") = %q, %d, want %q, OK", n, packet, e, want)
		}
		raw := string([]byte{byte(n)})
		if n == '$' || n == '#' || n == '}' {
			raw = "}" + string([]byte{byte(n) ^ 32})
		}
		packet, e = stylet.Frame(7, string([]byte{byte(n)}))
		if want := packed("07" + raw); e != api.OK || string(packet) != want {
			t.Errorf("Frame of byte %d = %q, %d, want %q, OK", n, packet, e, want)
		}
	}
}

func TestP5FrameKeepsToTheBounds(t *testing.T) {
	longest := strings.Repeat("a", api.MaxBody)
	for _, c := range []struct {
		seq  int
		body string
		want api.Errno
	}{
		{0, longest, api.OK},
		{255, strings.Repeat("}", api.MaxBody), api.OK},
		{0, longest + "a", api.ErrBody},
		{255, strings.Repeat("é", api.MaxBody/2) + "a", api.ErrBody},
		{0, strings.Repeat("a", 100000), api.ErrBody},
		{-1, "", api.ErrSeq},
		{256, "g", api.ErrSeq},
		{-256, "g", api.ErrSeq},
		{math.MaxInt, "g", api.ErrSeq},
		{math.MinInt, "g", api.ErrSeq},
		{256, longest + "a", api.ErrSeq},
		{-1, longest + "a", api.ErrSeq},
	} {
		packet, e := stylet.Frame(c.seq, c.body)
		if e != c.want {
			t.Errorf("Frame(%d, %d bytes): error %d, want %d", c.seq, len(c.body), e, c.want)
		}
		if e != api.OK && len(packet) != 0 {
			t.Errorf("P1: Frame(%d, %d bytes): %q beside error %d", c.seq, len(c.body), packet, e)
		}
	}
}

func TestP1FrameGivesNewMemory(t *testing.T) {
	first, _ := stylet.Frame(0, "g")
	spoil(first)
	second, _ := stylet.Frame(0, "g")
	if string(second) != "$00g#c7" {
		t.Errorf("Frame after its last answer was written into = %q", second)
	}
	spoil(first)
	if string(second) != "$00g#c7" {
		t.Errorf("two answers of Frame share memory: %q", second)
	}
}

// spoil writes over a list, and over its spare room.
func spoil(list []byte) {
	list = list[:cap(list)]
	for i := range list {
		list[i] = '!'
	}
}

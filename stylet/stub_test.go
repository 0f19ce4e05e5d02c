package stylet_test

import (
	"bytes"
	"fmt"
	"math"
	"math/rand/v2"
	"slices"
	"strings"
	"testing"

	"stylet/api"
	"stylet/stylet"
)

// talk is a stub, and the number that is due.
type talk struct {
	stub *stylet.Stub
	due  int
}

func newTalk(t *testing.T, c api.Config) *talk {
	t.Helper()
	s, e := stylet.NewStub(c)
	if s == nil || e != api.OK {
		t.Fatalf("NewStub(%d chunks, Rom %d) = %v, %d", len(c.Chunks), c.Rom, s != nil, e)
	}
	return &talk{stub: s}
}

// bootTalk gives a stub without Rom whose program stands at $200.
func bootTalk(t *testing.T, code []byte, more ...api.Chunk) *talk {
	t.Helper()
	return newTalk(t, config(256, append([]api.Chunk{vectors, chunk(0x200, code...)}, more...)...))
}

// framed writes a packet without the program's help.
func framed(seq int, body string) string {
	body = strings.NewReplacer("$", "}\x04", "#", "}\x03", "}", "}]").Replace(body)
	return packed(fmt.Sprintf("%02x", seq) + body)
}

func (k *talk) feed(text string) string { return string(k.stub.Feed([]byte(text))) }

func (k *talk) checkFeed(t *testing.T, text, want string) {
	t.Helper()
	if got := k.feed(text); got != want {
		t.Errorf("Feed(%q) = %q, want %q", text, got, want)
	}
}

func (k *talk) check(t *testing.T, body, reply string) {
	t.Helper()
	if got, want := k.feed(framed(k.due, body)), "+"+framed(k.due, reply); got != want {
		t.Errorf("%q (number %d): %q, want %q", body, k.due, got, want)
	}
	k.due = (k.due + 1) % 256
}

// checkLines takes lines of a body, its reply, and a remark behind //.
func (k *talk) checkLines(t *testing.T, lines string) {
	t.Helper()
	for line := range strings.Lines(lines) {
		line, _, _ = strings.Cut(line, "//")
		if words := append(strings.Fields(line), ""); words[0] != "" {
			k.check(t, words[0], words[1])
		}
	}
}

func checkTalk(t *testing.T, lines string, code ...byte) {
	t.Helper()
	bootTalk(t, code).checkLines(t, lines)
}

func TestP2NewStubTakesConfigurations(t *testing.T) {
	for i, c := range []api.Config{
		{},
		{Chunks: []api.Chunk{}, Rom: 256},
		config(1, zeros(65535, api.MaxBytes)),
		config(0, zeros(0, api.MaxBytes-1), zeros(0, 1), zeros(0, 0)),
		{Chunks: make([]api.Chunk, api.MaxChunks)},
	} {
		if s, e := stylet.NewStub(c); s == nil || e != api.OK {
			t.Errorf("case %d: NewStub = %v, %d, want a stub", i, s != nil, e)
		}
	}
}

func TestP2NewStubRefusesOthers(t *testing.T) {
	for i, c := range []api.Config{
		config(-1), config(257), config(math.MinInt), config(math.MaxInt),
		config(0, zeros(0, api.MaxBytes+1)),
		config(0, zeros(0, api.MaxBytes), zeros(0, 1)),
		{Chunks: make([]api.Chunk, api.MaxChunks+1)},
		config(0, zeros(-1, 1)), config(0, zeros(65536, 0)), config(0, zeros(math.MinInt, 1)),
	} {
		if s, e := stylet.NewStub(c); s != nil || e != api.ErrConfig {
			t.Errorf("case %d: NewStub = %v, %d, want nothing and ErrConfig", i, s != nil, e)
		}
	}
}

func TestP2StubHasTheConfiguredComputer(t *testing.T) {
	// Rom from page 3 on: STX $2FF, STX $300 with X = $77
	k := newTalk(t, config(3, chunk(0x1f0, 0xa2, 0x77, 0x8e, 0xff, 0x02, 0x8e, 0x00, 0x03, 0x02),
		chunk(0xfffc, 0xf0, 0x01), chunk(0x2ff, 1, 2, 3), chunk(0x301, 9)))
	k.checkLines(t, `
		m02ff03 010209
		s00ff T300000b
		m02ff03 770209
		g 007700fd2401f80000000b`)
}

func TestP7Example(t *testing.T) {
	k := bootTalk(t, []byte{0xa9, 5, 0x69, 0xfe, 0x8d, 0, 3, 2})
	for _, c := range [][2]string{
		{"$00g#c7", "+$00000000fd24020000000000#f2"},
		{"$00g#c7", "+$00000000fd24020000000000#f2"},
		{"$01i0002#8c", "+$01T0000004#09"},
		{"$05g#cc", "?"},
		{"$02g#00", "-"},
	} {
		k.checkFeed(t, c[0], c[1])
	}
}

func TestP7FreshStubWaitsForNumber0(t *testing.T) {
	k := bootTalk(t, nil)
	for seq := 1; seq < 256; seq++ {
		k.checkFeed(t, framed(seq, "g"), "?")
	}
	k.check(t, "g", "000000fd24020000000000")
}

func TestP7EveryNumberInItsTurn(t *testing.T) {
	k := bootTalk(t, []byte{0x4c, 0x00, 0x02})
	for done := range 600 {
		if done%20 == 0 || k.due < 3 || k.due > 253 {
			checkOtherNumbers(t, k, done)
		}
		k.check(t, "s0001", "T0000001")
	}
	k.check(t, "g", "000000fd24020000000258")
}

// checkOtherNumbers feeds all numbers but the one that is due.
func checkOtherNumbers(t *testing.T, k *talk, done int) {
	t.Helper()
	for i := range 255 {
		seq := (k.due + 1 + i) % 256
		want := "?"
		if seq == (k.due+255)%256 && done > 0 {
			want = "+" + framed(seq, "T0000001")
		}
		k.checkFeed(t, framed(seq, "s0001"), want)
	}
}

func TestP7CommandsAreDoneOnce(t *testing.T) {
	k := bootTalk(t, []byte{0xe8, 0xe8, 0xe8, 0xe8, 0xe8, 0xe8, 0x4c, 0, 2})
	again := func(body, reply string) {
		t.Helper()
		k.check(t, body, reply)
		last := (k.due + 255) % 256
		for _, other := range []string{body, "g", "", "w030001"} {
			k.checkFeed(t, framed(last, other), "+"+framed(last, reply))
		}
	}
	again("i0001", "T0000002")
	k.check(t, "g", "000100fd24020100000002")
	again("t1", "OK")
	again("s000c", "T000000c")
	again("q", "0201e8f0202e8r0202e8f0203e8r0203e8f0204e8r0204e8f0205e8r")
	again("q", "0205e8f02064cr02064cf020700r")
	again("b0300", "OK")
	again("d0300", "OK")
	again("d0300", "E5")
	again("zz", "E1")
	again("m030001", "00")
}

func TestP7BadPacketsChangeNothing(t *testing.T) {
	k := bootTalk(t, []byte{0xea, 0xea})
	for _, text := range []string{
		"$00i0001#00", "$00i0001#zz", "$zzg#4b", "$#00", "$0#30", packed("00g}"), packed("00" + strings.Repeat("a", api.MaxBody+1)),
	} {
		k.checkFeed(t, text, "-")
	}
	k.check(t, "i0001", "T0000002")
	k.checkFeed(t, "$00i0001#00", "-")
	k.checkFeed(t, framed(0, "i0001"), "+"+framed(0, "T0000002"))
	k.checkFeed(t, "$01g#c9$01g#c8$01g#c8", "-+"+framed(1, "000000fd24020100000002")+"+"+framed(1, "000000fd24020100000002"))
	k.checkFeed(t, "$"+strings.Repeat("a", api.MaxRaw+1)+"#00", "")
}

func TestP7FeedGoesOnWhereItEnded(t *testing.T) {
	text := "+?-" + framed(0, "s0003") + framed(0, "s0003") + "$01x#00" + framed(1, "m020008") + "$" + framed(9, "g") +
		framed(2, "}$#") + framed(3, "q") + "$04g"
	code := []byte{0xa9, 5, 0xea, 0xea}
	want := "+" + framed(0, "T0000003") + "+" + framed(0, "T0000003") + "-+" + framed(1, "a905eaea00000000") + "?" +
		"+" + framed(2, "E1") + "+" + framed(3, "")
	bootTalk(t, code).checkFeed(t, text, want)
	for _, size := range []int{1, 2, 3, 7} {
		k := bootTalk(t, code)
		var got string
		for piece := range slices.Chunk([]byte(text), size) {
			got += string(k.stub.Feed(piece)) + string(k.stub.Feed(nil))
		}
		if got != want {
			t.Errorf("in pieces of %d: %q, want %q", size, got, want)
		}
	}
	for i := range text {
		k := bootTalk(t, code)
		if got := k.feed(text[:i]) + k.feed(text[i:]); got != want {
			t.Errorf("cut at %d: %q, want %q", i, got, want)
		}
	}
}

func TestP7NumbersMayHaveGreatDigits(t *testing.T) {
	k := bootTalk(t, nil)
	for range 0xab {
		k.check(t, "d0000", "E5")
	}
	k.checkFeed(t, packed("AbbFfFf"), "+"+framed(0xab, "OK"))
	k.checkFeed(t, packed("aBdfFfF"), "+"+framed(0xab, "OK"))
	k.checkFeed(t, packed("aCdfFfF"), "+"+framed(0xac, "OK"))
}

func TestP1StubLeavesTheInputAlone(t *testing.T) {
	text := framed(0, "w030001020304") + framed(1, "m0300")
	room := []byte(text + "04#" + "and spare room")
	before := bytes.Clone(room)
	k := bootTalk(t, []byte{0xa9, 5})
	first := k.stub.Feed(room[: len(text)-3 : len(text)+3])
	if !bytes.Equal(room, before) {
		t.Errorf("Feed wrote into its list or its spare room: %q", room)
	}
	spoil(room)
	if want := "+" + framed(0, "OK"); string(first) != want {
		t.Errorf("answer behind a spoilt input = %q, want %q", first, want)
	}
	rest := framed(1, "m030004")
	k.checkFeed(t, rest[len("$01m0300"):], "+"+framed(1, "01020304"))
}

func TestP1StubKeepsNoConfiguration(t *testing.T) {
	code := []byte{0xe6, 0x10, 0x4c, 0x00, 0x02, 77}
	chunks := []api.Chunk{vectors, {At: 0x200, Bytes: code[:5]}}
	k := newTalk(t, api.Config{Chunks: chunks, Rom: 256})
	k.check(t, "w020011223344556677", "OK")
	k.check(t, "w0200e610", "OK")
	if !bytes.Equal(code, []byte{0xe6, 0x10, 0x4c, 0x00, 0x02, 77}) {
		t.Errorf("a patch writes into the configuration: % x", code)
	}
	clear(code)
	chunks[0] = api.Chunk{}
	k.check(t, "m020008", "e610334455667700")
}

func TestP1StubGivesNewMemory(t *testing.T) {
	k := bootTalk(t, []byte{0xa9, 5})
	text := []byte(framed(0, "m020004"))
	want := "+" + framed(0, "a9050000")
	first := k.stub.Feed(text)
	second := k.stub.Feed(text)
	spoil(first[:cap(first)])
	if string(second) != want {
		t.Errorf("two answers share memory: %q, want %q", second, want)
	}
	k.checkFeed(t, string(text), want)
}

func TestP1StubsDoNotChangeOneAnother(t *testing.T) {
	code := []byte{0xe6, 0x10, 0x4c, 0x00, 0x02}
	one, two := bootTalk(t, code), bootTalk(t, code)
	state := `
		m001001 00
		g 000000fd24020000000000
		q
		d0300 E5
		x0300 E5
		i0001 T0000005`
	one.checkLines(t, "t1 OK \n b0300 OK \n v0300 OK \n p3 OK \n s0020 T0000020 \n w030011 OK")
	two.checkLines(t, state)
	one.feed("$0")
	copied := *one.stub
	third := &talk{stub: &copied, due: one.due}
	third.checkFeed(t, framed(one.due, "zz")[2:], "+"+framed(one.due, "E1"))
	third.due++
	records := "q 0200e6f0200e6r01fd02w01fc00w01fb24wfffa00rfffb05r050000f"
	third.checkLines(t, "p0 OK \n d0300 OK \n x0300 OK \n w030022 OK \n s0020 T0000020")
	third.checkLines(t, records)
	one.checkFeed(t, framed(one.due, "d0300")[2:], "+"+framed(one.due, "OK"))
	one.due++
	one.checkLines(t, "m030001 00 \n x0300 OK \n s0020 T0000020 \n s0001 T4000000")
	one.checkLines(t, records)
}

func TestP1StubTakesWhatever(t *testing.T) {
	k := bootTalk(t, []byte{0x4c, 0x00, 0x02})
	for _, empty := range [][]byte{nil, {}} {
		if got := k.stub.Feed(empty); len(got) != 0 {
			t.Errorf("Feed of nothing = %q", got)
		}
	}
	for _, c := range []struct{ piece, want string }{
		{"$", ""}, {"a", ""}, {"#", ""}, {"\xff", ""}, {"$#00", "-"}, {framed(9, "sffff"), "?"},
	} {
		if got, want := k.feed(strings.Repeat(c.piece, 10000)), strings.Repeat(c.want, 10000); got != want {
			t.Errorf("Feed of many %q: %d bytes, want %d", c.piece, len(got), len(want))
		}
	}
	random := rand.New(rand.NewPCG(7, 7))
	for range 300 {
		k.feed(noise(random))
	}
}

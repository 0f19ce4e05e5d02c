package stylet_test

import (
	"fmt"
	"math/rand/v2"
	"slices"
	"strconv"
	"strings"
	"testing"

	"stylet/api"
	"stylet/stylet"
)

var bad = api.Packet{Bad: true}

func good(seq int, body string) api.Packet { return api.Packet{Seq: seq, Body: body} }

func list(packets ...api.Packet) []api.Packet { return packets }

// checkScan feeds the text whole, byte by byte, and cut in two at every place.
func checkScan(t *testing.T, text string, want []api.Packet) {
	t.Helper()
	if got := feedPieces(slices.Collect(slices.Chunk([]byte(text), max(1, len(text))))); !slices.Equal(got, want) {
		t.Errorf("Feed(%q) = %+v, want %+v", text, got, want)
	}
	if got := feedPieces(slices.Collect(slices.Chunk([]byte(text), 1))); !slices.Equal(got, want) {
		t.Errorf("Feed(%q) byte by byte = %+v, want %+v", text, got, want)
	}
	for i := range len(text) {
		if got := feedPieces([][]byte{[]byte(text[:i]), nil, []byte(text[i:])}); !slices.Equal(got, want) {
			t.Errorf("Feed(%q) cut at %d = %+v, want %+v", text, i, got, want)
		}
	}
}

func feedPieces(pieces [][]byte) []api.Packet {
	scan := stylet.NewScan()
	var packets []api.Packet
	for _, piece := range pieces {
		packets = append(packets, scan.Feed(piece)...)
	}
	return packets
}

func TestP6ScanFindsPackets(t *testing.T) {
	for _, c := range []struct {
		text string
		want []api.Packet
	}{
		{"", nil},
		{"no packet", nil},
		{"#00#c7", nil},
		{"$00g#c7", list(good(0, "g"))},
		{"$00g#C7", list(good(0, "g"))},
		{"+-?#$00g#c7#c7", list(good(0, "g"))},
		{"$00g#c7$01i0002#8c", list(good(0, "g"), good(1, "i0002"))},
		{"$ffa}]#07", list(good(255, "a}"))},
		{"$00#60", list(good(0, ""))},
		{packed("aB"), list(good(0xab, ""))},
		{packed("Fex"), list(good(254, "x"))},
		{packed("07\x00\xff\xc3"), list(good(7, "\x00\xff\xc3"))},
		{"$00g", nil},
		{"$00g#", nil},
		{"$00g#c", nil},
	} {
		checkScan(t, c.text, c.want)
	}
}

func TestP6ScanBeginsAnew(t *testing.T) {
	for _, c := range []struct {
		text string
		want []api.Packet
	}{
		{"$$00g#c7", list(good(0, "g"))},
		{"$00$00g#c7", list(good(0, "g"))},
		{"$00}$00g#c7", list(good(0, "g"))},
		{"$" + strings.Repeat("a", api.MaxRaw) + "$00g#c7", list(good(0, "g"))},
		{"$00g#$$00g#c7", list(bad)},
		{"$00g#c$00g#c7", list(bad)},
		{"$00g#$0$00g#c7", list(bad, good(0, "g"))},
		{"$00g###$00g#c7", list(bad, good(0, "g"))},
	} {
		checkScan(t, c.text, c.want)
	}
}

func TestP6ScanTellsBadOnes(t *testing.T) {
	for _, text := range []string{
		"$00g#00", "$00g#c8", "$00g#7c", "$00g#d7", // wrong sums
		"$00g#zz", "$00g#cg", "$00g#gc", "$00g#c ", "$00g# 7", "$00g###", "$00g#\x00\xff", // no hex digits
		"$00g#c/", "$00g#c:", "$00g#c@", "$00g#cG", "$00g#c`", // beside the hex digits
		"$00\xa0#zz", "$00\xa0#0z", "$00\xa0#z0", "$00\xa0#\x00\x00", // where the right sum is 0
		"$#00", packed("0"), packed("f"), // no number
		packed("zz"), packed("0g"), packed("g0"), packed(" 0g"), packed("0 g"), packed("-1g"), packed("+1g"), packed("0x1"),
		packed("0/"), packed("0:"), packed("0@"), packed("0G"), packed("0`"),
		packed("}00"), packed("0}\x10"), packed("}"), // the number is not turned
		packed("00}"), packed("00a}"), packed("00}}}"), // nothing to turn
		packed("00" + strings.Repeat("a", api.MaxBody) + "}"),
	} {
		checkScan(t, text, list(bad))
	}
}

func TestP6ScanTurnsBytes(t *testing.T) {
	for n := range 256 {
		if n == '$' || n == '#' {
			continue
		}
		raw := "5a}" + string([]byte{byte(n)}) + "x"
		checkScan(t, packed(raw), list(good(0x5a, string([]byte{byte(n) ^ 32})+"x")))
	}
	checkScan(t, packed("00}}"), list(good(0, "]")))
	checkScan(t, packed("00}}}}"), list(good(0, "]]")))
	checkScan(t, packed("00}]]"), list(good(0, "}]")))
}

func TestP6ScanKeepsToTheBounds(t *testing.T) {
	a := strings.Repeat
	for _, c := range []struct {
		text string
		want []api.Packet
	}{
		{packed("00" + a("a", api.MaxBody)), list(good(0, a("a", api.MaxBody)))},
		{packed("00" + a("a", api.MaxBody+1)), list(bad)},
		{packed("00" + a("}]", api.MaxBody)), list(good(0, a("}", api.MaxBody)))},
		{packed("00" + a("}]", api.MaxBody) + "a"), list(bad)},
		{packed("00" + a("}]", api.MaxBody+1)), list(bad)},
		{packed("00" + a("a", api.MaxRaw-2)), list(bad)},
		{packed("00" + a("a", api.MaxRaw-1)), nil},
		{packed("00"+a("a", api.MaxRaw-1)) + "$00g#c7", list(good(0, "g"))},
		{packed(a("a", 5*api.MaxRaw)) + "00#60$00g#c7", list(good(0, "g"))},
		{packed(a("a", api.MaxRaw+1)) + packed("00"+a("a", api.MaxRaw-2)), list(bad)},
	} {
		checkScan(t, c.text, c.want)
	}
}

func TestP6ScanReadsWhatFrameWrites(t *testing.T) {
	random := rand.New(rand.NewPCG(5, 6))
	var text []byte
	var want []api.Packet
	for seq := range 256 {
		body := make([]byte, random.IntN(api.MaxBody+1))
		for i := range body {
			body[i] = byte(random.IntN(256))
		}
		packet, e := stylet.Frame(seq, string(body))
		if e != api.OK {
			t.Fatalf("Frame(%d, %q): error %d", seq, body, e)
		}
		text = append(append(text, packet...), "noise#"...)
		want = append(want, good(seq, string(body)))
	}
	if got := stylet.NewScan().Feed(text); !slices.Equal(got, want) {
		t.Errorf("Feed of framed packets = %+v, want %+v", got, want)
	}
}

// scanWhole finds the packets of a whole text by searching it, not byte by byte.
func scanWhole(text string) []api.Packet {
	var packets []api.Packet
	for {
		_, behind, found := strings.Cut(text, "$")
		if !found {
			return packets
		}
		text = behind
		length := strings.IndexAny(text, "$#")
		if length < 0 {
			return packets
		}
		if text[length] == '$' || length > api.MaxRaw {
			continue
		}
		if len(text) < length+3 {
			return packets
		}
		packets = append(packets, judge(text[:length], text[length+1:length+3]))
		text = text[length+3:]
	}
}

func judge(raw, digits string) api.Packet {
	if !strings.EqualFold(packed(raw), "$"+raw+"#"+digits) || len(raw) < 2 {
		return bad
	}
	if strings.ContainsAny(raw[:2], "+-_") {
		return bad
	}
	seq, err := strconv.ParseUint(raw[:2], 16, 8)
	if err != nil {
		return bad
	}
	var body strings.Builder
	for rest := raw[2:]; rest != ""; {
		plain, behind, found := strings.Cut(rest, "}")
		body.WriteString(plain)
		if !found {
			break
		}
		if behind == "" {
			return bad
		}
		body.WriteByte(behind[0] ^ 32)
		rest = behind[1:]
	}
	if body.Len() > api.MaxBody {
		return bad
	}
	return good(int(seq), body.String())
}

// noise gives bytes among which packets, spoiled packets and long runs are frequent.
func noise(random *rand.Rand) string {
	pieces := []string{"$", "#", "}", "$00g#c7", "$00g#c8", "$", "00", "fF", "#60", "}]", "\x00", "\xff", "z"}
	var text strings.Builder
	for range random.IntN(30) {
		switch random.IntN(6) {
		case 0:
			raw := fmt.Sprintf("%02x", random.IntN(256)) + strings.Repeat("}a", random.IntN(110))
			text.WriteString(packed(raw[:random.IntN(len(raw)+1)]))
		case 1:
			text.WriteString(strings.Repeat("a", random.IntN(260)))
		default:
			text.WriteString(pieces[random.IntN(len(pieces))])
		}
	}
	return text.String()
}

func TestP6ScanGoesOnWhereItEnded(t *testing.T) {
	random := rand.New(rand.NewPCG(1, 2))
	for range 3000 {
		text := noise(random)
		want := scanWhole(text)
		scan := stylet.NewScan()
		var got []api.Packet
		for rest := []byte(text); len(rest) > 0; {
			n := 1 + random.IntN(len(rest))
			got = append(got, scan.Feed(rest[:n])...)
			rest = rest[n:]
		}
		if !slices.Equal(got, want) {
			t.Fatalf("Feed of %q in pieces = %+v, want %+v", text, got, want)
		}
	}
}

func TestP1ScanLeavesTheInputAlone(t *testing.T) {
	text := "$00a}]#xx$00g#c7$00g#c"
	room := []byte(text + "7$01i0002#8c")
	before := slices.Clone(room)
	scan := stylet.NewScan()
	first := scan.Feed(room[:len(text)])
	if !slices.Equal(room, before) {
		t.Errorf("Feed wrote into its list or its spare room: %q", room)
	}
	spoil(room)
	if want := list(bad, good(0, "g")); !slices.Equal(first, want) {
		t.Errorf("answer after its input was written into = %+v, want %+v", first, want)
	}
	if got, want := scan.Feed([]byte("7")), list(good(0, "g")); !slices.Equal(got, want) {
		t.Errorf("Feed after its last input was written into = %+v, want %+v", got, want)
	}
}

func TestP1ScanGivesNewMemory(t *testing.T) {
	scan := stylet.NewScan()
	text := []byte(strings.Repeat("$00g#c7", 5))
	want := slices.Repeat(list(good(0, "g")), 5)
	first := scan.Feed(text)
	second := scan.Feed(text)
	first = first[:cap(first)]
	for i := range first {
		first[i] = bad
	}
	if !slices.Equal(second, want) {
		t.Errorf("two answers of Feed share memory: %+v", second)
	}
	if third := scan.Feed(text); !slices.Equal(third, want) {
		t.Errorf("Feed after its last answer was written into = %+v, want %+v", third, want)
	}
}

func TestP1ScansDoNotChangeOneAnother(t *testing.T) {
	one, two := stylet.NewScan(), stylet.NewScan()
	one.Feed([]byte("$00"))
	if got := two.Feed([]byte("x#01$01h#")); len(got) != 0 {
		t.Errorf("a fresh scan tells %+v", got)
	}
	if got, want := one.Feed([]byte("g#c7")), list(good(0, "g")); !slices.Equal(got, want) {
		t.Errorf("Feed beside another scan = %+v, want %+v", got, want)
	}
	if got, want := two.Feed([]byte("c9")), list(good(1, "h")); !slices.Equal(got, want) {
		t.Errorf("Feed beside another scan = %+v, want %+v", got, want)
	}
}

func TestP1ScanTakesEmptyLists(t *testing.T) {
	scan := stylet.NewScan()
	for _, empty := range [][]byte{nil, {}} {
		if got := scan.Feed(empty); len(got) != 0 {
			t.Errorf("Feed of nothing = %+v", got)
		}
	}
}

func TestP1ScanTakesLongLists(t *testing.T) {
	scan := stylet.NewScan()
	for _, c := range []struct {
		piece string
		want  int
	}{{"$", 0}, {"a", 0}, {"#", 0}, {"$#00", 100000}, {"\xff", 0}} {
		if got := scan.Feed([]byte(strings.Repeat(c.piece, 100000))); len(got) != c.want {
			t.Errorf("Feed of many %q: %d packets, want %d", c.piece, len(got), c.want)
		}
	}
}

package hex

import (
	"bytes"
	"strconv"
	"testing"
)

func TestP7NumbersAreCut(t *testing.T) {
	for _, c := range []struct {
		number, count int
		want          string
	}{
		{0, 0, ""}, {0, 2, "00"}, {0xa5, 2, "a5"}, {0x1ff, 2, "ff"}, {0x10000, 4, "0000"}, {0xfedc, 4, "fedc"},
		{0x123456, 6, "123456"}, {0x1000001, 6, "000001"}, {0xffffffff, 8, "ffffffff"}, {0x189abcdef, 8, "89abcdef"},
	} {
		if got := string(Append([]byte("x"), c.number, c.count)); got != "x"+c.want {
			t.Errorf("Append(x, %#x, %d) = %q, want x%s", c.number, c.count, got, c.want)
		}
	}
}

func TestP6P7DigitsThatAreRead(t *testing.T) {
	for c := range 256 {
		want, err := strconv.ParseUint(string([]byte{byte(c)}), 16, 8)
		isDigit := err == nil
		for _, pair := range [][2]byte{{byte(c), '3'}, {'3', byte(c)}} {
			b, ok := Byte(pair[0], pair[1])
			value := byte(want)<<4 | 3
			if pair[0] == '3' {
				value = 3<<4 | byte(want)
			}
			if ok != isDigit || ok && b != value || !ok && b != 0 {
				t.Errorf("Byte(%q) = %#x, %v", pair, b, ok)
			}
		}
	}
}

func TestP7Bytes(t *testing.T) {
	for text, want := range map[string][]byte{
		"": {}, "00": {0}, "aBCd": {0xab, 0xcd}, "000102fF": {0, 1, 2, 255},
	} {
		if got, ok := Bytes(text); !ok || !bytes.Equal(got, want) {
			t.Errorf("Bytes(%q) = %x, %v, want %x", text, got, ok, want)
		}
	}
	for _, text := range []string{"0", "012", "g0", "0g", "01 2", "0102zz", "-1", "+1", "0x01", "\xff\xff", "１２"} {
		if got, ok := Bytes(text); ok || got != nil {
			t.Errorf("Bytes(%q) = %x, %v, want nothing", text, got, ok)
		}
	}
}

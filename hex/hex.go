// Package hex writes numbers in hex digits, and reads them.
package hex

const digits = "0123456789abcdef"

// Append writes the lowest bits of the number, in that many digits.
func Append(to []byte, number, count int) []byte {
	for i := count - 1; i >= 0; i-- {
		to = append(to, digits[number>>(4*i)&15])
	}
	return to
}

// Byte reads two digits.
func Byte(high, low byte) (byte, bool) {
	h, highOK := value(high)
	l, lowOK := value(low)
	if !highOK || !lowOK {
		return 0, false
	}
	return h<<4 | l, true
}

// Bytes reads a text that is nothing but digits, two for each byte.
func Bytes(text string) ([]byte, bool) {
	if len(text)%2 != 0 {
		return nil, false
	}
	list := make([]byte, 0, len(text)/2)
	for i := 0; i < len(text); i += 2 {
		b, ok := Byte(text[i], text[i+1])
		if !ok {
			return nil, false
		}
		list = append(list, b)
	}
	return list, true
}

func value(c byte) (byte, bool) {
	switch {
	case c >= '0' && c <= '9':
		return c - '0', true
	case c >= 'a' && c <= 'f':
		return c - 'a' + 10, true
	case c >= 'A' && c <= 'F':
		return c - 'A' + 10, true
	}
	return 0, false
}

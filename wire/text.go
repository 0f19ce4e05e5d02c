// Package wire writes packets and finds them again among bytes.
package wire

const (
	start  = '$'
	end    = '#'
	escape = '}'
	flip   = 32 // what an escaped byte is xored with
)

const hexDigits = "0123456789abcdef"

func appendHex(to []byte, b byte) []byte {
	return append(to, hexDigits[b>>4], hexDigits[b&15])
}

func hexValue(c byte) (byte, bool) {
	switch {
	case c >= '0' && c <= '9':
		return c - '0', true
	case c >= 'a' && c <= 'f':
		return c - 'a' + 10, true
	case c >= 'A' && c <= 'F':
		return c - 'A' + 10, true
	}
	return 0, false
}

func hexByte(high, low byte) (byte, bool) {
	h, highOK := hexValue(high)
	l, lowOK := hexValue(low)
	if !highOK || !lowOK {
		return 0, false
	}
	return h<<4 | l, true
}

func appendEscaped(to []byte, body string) []byte {
	for i := range len(body) {
		switch c := body[i]; c {
		case start, end, escape:
			to = append(to, escape, c^flip)
		default:
			to = append(to, c)
		}
	}
	return to
}

// unescape turns any byte behind an escape, not only those that Frame
// escapes: the other side may escape more than it must.
func unescape(raw []byte) (string, bool) {
	body := make([]byte, 0, len(raw))
	for i := 0; i < len(raw); i++ {
		c := raw[i]
		if c == escape {
			i++
			if i == len(raw) {
				return "", false
			}
			c = raw[i] ^ flip
		}
		body = append(body, c)
	}
	return string(body), true
}

// sum leans on the wrap-round of a byte: the promised sum is cut to one.
func sum(raw []byte) byte {
	var total byte
	for _, c := range raw {
		total += c
	}
	return total
}

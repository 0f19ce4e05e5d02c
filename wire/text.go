// Package wire writes packets and finds them again among bytes.
package wire

const (
	start  = '$'
	end    = '#'
	escape = '}'
	flip   = 32 // what an escaped byte is xored with
)

func appendEscaped(to []byte, body string) []byte {
	for i := range len(body) {
		switch c := body[i]; c {
		case start, end, escape:
			to = append(to, escape, c^flip)
		default:
			to = append(to, c)
		}
	}
	return to
}

// unescape turns any byte behind an escape, not only those that Frame
// escapes: the other side may escape more than it must.
func unescape(raw []byte) (string, bool) {
	body := make([]byte, 0, len(raw))
	for i := 0; i < len(raw); i++ {
		c := raw[i]
		if c == escape {
			i++
			if i == len(raw) {
				return "", false
			}
			c = raw[i] ^ flip
		}
		body = append(body, c)
	}
	return string(body), true
}

// sum leans on the wrap-round of a byte: the promised sum is cut to one.
func sum(raw []byte) byte {
	var total byte
	for _, c := range raw {
		total += c
	}
	return total
}

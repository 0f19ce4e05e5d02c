package wire

import (
	"stylet/api"
	"stylet/hex"
)

// Frame gives the bytes of the packet with this number and body.
func Frame(seq int, body string) ([]byte, api.Errno) {
	if seq < 0 || seq > 255 {
		return nil, api.ErrSeq
	}
	if len(body) > api.MaxBody {
		return nil, api.ErrBody
	}
	packet := []byte{start}
	packet = hex.Append(packet, seq, 2)
	packet = appendEscaped(packet, body)
	total := sum(packet[1:])
	packet = append(packet, end)
	return hex.Append(packet, int(total), 2), api.OK
}

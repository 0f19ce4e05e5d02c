package wire

import "stylet/api"

// Frame gives the bytes of the packet with this number and body.
func Frame(seq int, body string) ([]byte, api.Errno) {
	if seq < 0 || seq > 255 {
		return nil, api.ErrSeq
	}
	if len(body) > api.MaxBody {
		return nil, api.ErrBody
	}
	packet := []byte{start}
	packet = appendHex(packet, byte(seq))
	packet = appendEscaped(packet, body)
	total := sum(packet[1:])
	packet = append(packet, end)
	return appendHex(packet, total), api.OK
}

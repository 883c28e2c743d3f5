package packet

import (
	"strings"

	"speakeasy/api"
	"speakeasy/poly"
	"speakeasy/wire"
)

// Writer writes the packets of a direction; the zero value writes plain ones.
type Writer struct {
	direction
}

// Seal makes the writer seal all further packets with the key.
func (w *Writer) Seal(key [32]byte) { w.seal(key) }

// Pack returns the next packet.
func (w *Writer) Pack(payload string) (string, error) {
	if payload == "" {
		return "", api.ErrEnd
	}
	if len(payload) > api.MaxPacket {
		return "", api.ErrBig
	}
	body := w.body(payload)
	var o wire.Out
	head := o.U32(uint32(len(body))).Bytes()
	if w.sealed {
		body = poly.Seal(w.key, w.nonce(), body, head)
	}
	w.count++
	return head + body, nil
}

// body returns what follows the length field of a plain packet.
func (w *Writer) body(payload string) string {
	least := w.padded() + 1 + len(payload) + leastPadding
	padding := leastPadding + (unit-least%unit)%unit
	var o wire.Out
	return o.Byte(byte(padding)).Raw(payload).Raw(strings.Repeat("\x00", padding)).Bytes()
}

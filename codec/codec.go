// Package codec: see ../../shared/doc/01-codec.md.
package codec

import "suzerain/api"

// How many bytes a number takes.
const (
	kindWidth  = 1
	idWidth    = 6
	whoWidth   = 1
	powerWidth = 7
	countWidth = 1
)

// Good is what is wrong with a packet.
func Good(p api.Packet) api.Errno {
	if p.Kind < api.Change || p.Kind > api.Double {
		return api.ErrKind
	}
	if p.Id < 1 || p.Id > api.MaxTime {
		return api.ErrRange
	}
	if accuses(p) && (!isValidator(p.V) || p.N < 1 || p.N > api.MaxAmount) {
		return api.ErrRange
	}
	if hasForeign(p) {
		return api.ErrForm
	}
	if !powersRise(p.Set) || !rises(p.Done) {
		return api.ErrRange
	}
	return api.OK
}

// accuses is whether a packet is of a kind that has V and N.
func accuses(p api.Packet) bool {
	return p.Kind == api.Down || p.Kind == api.Double
}

// hasForeign is whether a packet has something that its kind has not.
func hasForeign(p api.Packet) bool {
	if !accuses(p) && (p.V != 0 || p.N != 0) {
		return true
	}
	return p.Kind != api.Change && (len(p.Set) != 0 || len(p.Done) != 0)
}

func isValidator(v int) bool {
	return v >= 0 && v < api.Validators
}

// powersRise is whether powers are amounts, of validators that rise, each once.
func powersRise(powers []api.Power) bool {
	last := -1
	for _, p := range powers {
		if p.V <= last || !isValidator(p.V) || p.N < 0 || p.N > api.MaxAmount {
			return false
		}
		last = p.V
	}
	return true
}

// rises is whether these are validators that rise, each once.
func rises(validators []int) bool {
	last := -1
	for _, v := range validators {
		if v <= last || !isValidator(v) {
			return false
		}
		last = v
	}
	return true
}

// Encode is a packet's bytes.
func Encode(p api.Packet) (string, api.Errno) {
	if e := Good(p); e != api.OK {
		return "", e
	}
	var b []byte
	b = put(b, p.Kind, kindWidth)
	b = put(b, p.Id, idWidth)
	b = put(b, p.V, whoWidth)
	b = put(b, p.N, powerWidth)
	b = put(b, len(p.Set), countWidth)
	for _, power := range p.Set {
		b = put(b, power.V, whoWidth)
		b = put(b, power.N, powerWidth)
	}
	b = put(b, len(p.Done), countWidth)
	for _, v := range p.Done {
		b = put(b, v, whoWidth)
	}
	return string(b), api.OK
}

// put lays a number behind bytes, its highest byte first.
func put(b []byte, n, width int) []byte {
	for i := width - 1; i >= 0; i-- {
		b = append(b, byte(n>>(8*i)))
	}
	return b
}

// Decode is the packet of bytes.
func Decode(s string) (api.Packet, api.Errno) {
	t := taker{rest: s}
	p := t.packet()
	if t.short || len(t.rest) != 0 {
		return api.Packet{}, api.ErrForm
	}
	if e := Good(p); e != api.OK {
		return api.Packet{}, e
	}
	return p, api.OK
}

// taker takes numbers from the beginning of bytes. It remembers that bytes
// were wanting, so that whoever takes many numbers need ask but once.
type taker struct {
	rest  string
	short bool
}

// number is the next number; 0, if bytes are wanting.
func (t *taker) number(width int) int {
	if len(t.rest) < width {
		t.short = true
		t.rest = ""
		return 0
	}
	n := 0
	for i := range width {
		n = n<<8 | int(t.rest[i])
	}
	t.rest = t.rest[width:]
	return n
}

// packet is the next packet, be it good or not.
func (t *taker) packet() api.Packet {
	var p api.Packet
	p.Kind = t.number(kindWidth)
	p.Id = t.number(idWidth)
	p.V = t.number(whoWidth)
	p.N = t.number(powerWidth)
	for range t.number(countWidth) {
		v := t.number(whoWidth)
		n := t.number(powerWidth)
		p.Set = append(p.Set, api.Power{V: v, N: n})
	}
	for range t.number(countWidth) {
		p.Done = append(p.Done, t.number(whoWidth))
	}
	return p
}

package codec_test

import (
	"math"
	"reflect"
	"slices"
	"strings"
	"testing"

	"suzerain/api"
	"suzerain/codec"
)

func change(set []api.Power, done []int) api.Packet {
	return api.Packet{Kind: api.Change, Id: 1, Set: set, Done: done}
}

// everyone is a change of all validators, as great as a packet can be.
func everyone() api.Packet {
	p := api.Packet{Kind: api.Change, Id: api.MaxTime}
	for v := range api.Validators {
		p.Set = append(p.Set, api.Power{V: v, N: api.MaxAmount - v})
		p.Done = append(p.Done, v)
	}
	return p
}

// goodPackets are ordinary packets, and those at the edges of each bound.
func goodPackets() []api.Packet {
	l := []api.Packet{
		change(nil, nil),
		change([]api.Power{}, []int{}),
		change([]api.Power{{V: 0, N: 0}}, nil),
		change([]api.Power{{V: 5, N: api.MaxAmount}}, nil),
		change([]api.Power{{V: 1, N: 7}, {V: 2, N: 0}, {V: 4, N: 1}}, []int{0, 5}),
		change(nil, []int{0}),
		change(nil, []int{5}),
		everyone(),
		{Kind: api.Matured, Id: 1},
		{Kind: api.Matured, Id: 258},
		{Kind: api.Matured, Id: api.MaxTime, Set: []api.Power{}, Done: []int{}},
	}
	for _, kind := range []int{api.Down, api.Double} {
		l = append(l,
			api.Packet{Kind: kind, Id: 1, V: 0, N: 1},
			api.Packet{Kind: kind, Id: api.MaxTime, V: 5, N: api.MaxAmount},
			api.Packet{Kind: kind, Id: 77, V: 3, N: 1234567, Set: []api.Power{}, Done: []int{}},
		)
	}
	return l
}

// same is whether two packets are one, where an empty list is like nil.
func same(a, b api.Packet) bool {
	return a.Kind == b.Kind && a.Id == b.Id && a.V == b.V && a.N == b.N &&
		slices.Equal(a.Set, b.Set) && slices.Equal(a.Done, b.Done)
}

func isZero(p api.Packet) bool {
	return same(p, api.Packet{})
}

type badPacket struct {
	name string
	p    api.Packet
	want api.Errno
}

// badKinds are wrong in every other way, too: the kind comes first.
func badKinds() []badPacket {
	var l []badPacket
	for _, kind := range []int{math.MinInt, -1, 0, 5, 6, 255, 257, math.MaxInt} {
		l = append(l,
			badPacket{"kind alone", api.Packet{Kind: kind, Id: 1}, api.ErrKind},
			badPacket{"kind and all else", api.Packet{Kind: kind, V: -1, N: -1, Set: []api.Power{{V: 9, N: -1}}, Done: []int{9}}, api.ErrKind},
		)
	}
	return l
}

// badIds have something foreign, too: the range of Id comes ahead of it.
func badIds() []badPacket {
	var l []badPacket
	for _, id := range []int{math.MinInt, -1, 0, api.MaxTime + 1, math.MaxInt} {
		for kind := api.Change; kind <= api.Double; kind++ {
			p := api.Packet{Kind: kind, Id: id}
			if kind >= api.Down {
				p.N = 1
			}
			l = append(l, badPacket{"id", p, api.ErrRange})
			p.N, p.Set, p.Done = 1, []api.Power{{V: 9}}, []int{9}
			l = append(l, badPacket{"id ahead of foreign", p, api.ErrRange})
		}
	}
	return l
}

// badAccused: V and N of who was down or signed twice, alone and with foreign lists.
func badAccused() []badPacket {
	var l []badPacket
	for _, kind := range []int{api.Down, api.Double} {
		for _, v := range []int{math.MinInt, -1, api.Validators, 256, math.MaxInt} {
			p := api.Packet{Kind: kind, Id: 1, V: v, N: 1}
			l = append(l, badPacket{"validator", p, api.ErrRange})
			p.Done = []int{1}
			l = append(l, badPacket{"validator ahead of foreign", p, api.ErrRange})
		}
		for _, n := range []int{math.MinInt, -1, 0, api.MaxAmount + 1, 1<<56 + 1, math.MaxInt} {
			p := api.Packet{Kind: kind, Id: 1, V: 1, N: n}
			l = append(l, badPacket{"power", p, api.ErrRange})
			p.Set = []api.Power{{V: 1, N: 1}}
			l = append(l, badPacket{"power ahead of foreign", p, api.ErrRange})
		}
	}
	return l
}

// badForms have what their kind has not; some have bad lists, too, which come later.
func badForms() []badPacket {
	l := []badPacket{
		{"change with V", api.Packet{Kind: api.Change, Id: 1, V: 1}, api.ErrForm},
		{"change with V below 0", api.Packet{Kind: api.Change, Id: 1, V: -1}, api.ErrForm},
		{"change with N", api.Packet{Kind: api.Change, Id: 1, N: 1}, api.ErrForm},
		{"change with N out of bounds", api.Packet{Kind: api.Change, Id: 1, N: math.MinInt}, api.ErrForm},
		{"change with N and a bad set", api.Packet{Kind: api.Change, Id: 1, N: 1, Set: []api.Power{{V: 6}}}, api.ErrForm},
		{"change with V and a bad done", api.Packet{Kind: api.Change, Id: 1, V: 1, Done: []int{6}}, api.ErrForm},
		{"matured with V", api.Packet{Kind: api.Matured, Id: 1, V: 6}, api.ErrForm},
		{"matured with N", api.Packet{Kind: api.Matured, Id: 1, N: -1}, api.ErrForm},
	}
	for kind := api.Matured; kind <= api.Double; kind++ {
		p := api.Packet{Kind: kind, Id: 1}
		if kind >= api.Down {
			p.N = 1
		}
		for _, set := range [][]api.Power{{{}}, {{V: 1, N: 1}}, {{V: 6, N: -1}}} {
			q := p
			q.Set = set
			l = append(l, badPacket{"foreign set", q, api.ErrForm})
		}
		for _, done := range [][]int{{0}, {1, 2}, {2, 1}} {
			q := p
			q.Done = done
			l = append(l, badPacket{"foreign done", q, api.ErrForm})
		}
	}
	return l
}

func badLists() []badPacket {
	return []badPacket{
		{"twice in set", change([]api.Power{{V: 1, N: 1}, {V: 1, N: 1}}, nil), api.ErrRange},
		{"falling set", change([]api.Power{{V: 2, N: 1}, {V: 1, N: 1}}, nil), api.ErrRange},
		{"falling at the end", change([]api.Power{{V: 0}, {V: 3}, {V: 2}}, nil), api.ErrRange},
		{"validator of set below 0", change([]api.Power{{V: -1, N: 1}}, nil), api.ErrRange},
		{"validator of set too great", change([]api.Power{{V: 6, N: 1}}, nil), api.ErrRange},
		{"last validator of set too great", change([]api.Power{{V: 5, N: 1}, {V: 6, N: 1}}, nil), api.ErrRange},
		{"power below 0", change([]api.Power{{V: 0, N: -1}}, nil), api.ErrRange},
		{"power least of all", change([]api.Power{{V: 0, N: math.MinInt}}, nil), api.ErrRange},
		{"power too great", change([]api.Power{{V: 0, N: api.MaxAmount + 1}}, nil), api.ErrRange},
		{"last power too great", change([]api.Power{{V: 0, N: 1}, {V: 5, N: math.MaxInt}}, nil), api.ErrRange},
		{"more powers than validators", change(make([]api.Power, 7), nil), api.ErrRange},
		{"more powers than a byte counts", change(make([]api.Power, 256), nil), api.ErrRange},
		{"twice in done", change(nil, []int{3, 3}), api.ErrRange},
		{"falling done", change(nil, []int{3, 2}), api.ErrRange},
		{"done falls at the end", change(nil, []int{0, 3, 1}), api.ErrRange},
		{"done below 0", change(nil, []int{-1}), api.ErrRange},
		{"done too great", change(nil, []int{6}), api.ErrRange},
		{"last done too great", change(nil, []int{0, 5, 6}), api.ErrRange},
		{"done greatest of all", change(nil, []int{math.MaxInt}), api.ErrRange},
		{"more done than a byte counts", change(nil, make([]int, 300)), api.ErrRange},
		{"good set, bad done", change([]api.Power{{V: 0, N: 1}}, []int{1, 1}), api.ErrRange},
		{"bad set, good done", change([]api.Power{{V: 0, N: -1}}, []int{1}), api.ErrRange},
	}
}

func badPackets() []badPacket {
	return slices.Concat(badKinds(), badIds(), badAccused(), badForms(), badLists())
}

// P1.1
func TestGood(t *testing.T) {
	for _, p := range goodPackets() {
		if e := codec.Good(p); e != api.OK {
			t.Errorf("%v: %d", p, e)
		}
	}
	for _, c := range badPackets() {
		if e := codec.Good(c.p); e != c.want {
			t.Errorf("%s: %v: %d, not %d", c.name, c.p, e, c.want)
		}
	}
}

// P1.2
func TestEncodeBytes(t *testing.T) {
	for _, c := range []struct {
		p    api.Packet
		want string
	}{
		{api.Packet{Kind: api.Matured, Id: 258},
			"\x02" + "\x00\x00\x00\x00\x01\x02" + "\x00" + "\x00\x00\x00\x00\x00\x00\x00" + "\x00" + "\x00"},
		{api.Packet{Kind: api.Matured, Id: api.MaxTime},
			"\x02" + "\x01\x00\x00\x00\x00\x00" + "\x00" + "\x00\x00\x00\x00\x00\x00\x00" + "\x00" + "\x00"},
		{api.Packet{Kind: api.Down, Id: 0x0123456789, V: 5, N: 0x01020304050607},
			"\x03" + "\x00\x01\x23\x45\x67\x89" + "\x05" + "\x01\x02\x03\x04\x05\x06\x07" + "\x00" + "\x00"},
		{api.Packet{Kind: api.Double, Id: 1, V: 0, N: api.MaxAmount},
			"\x04" + "\x00\x00\x00\x00\x00\x01" + "\x00" + "\x04\x00\x00\x00\x00\x00\x00" + "\x00" + "\x00"},
		{api.Packet{Kind: api.Change, Id: 255, Set: []api.Power{{V: 1, N: 0}, {V: 5, N: 0x0102}}, Done: []int{0, 2, 4}},
			"\x01" + "\x00\x00\x00\x00\x00\xff" + "\x00" + "\x00\x00\x00\x00\x00\x00\x00" +
				"\x02" + "\x01" + "\x00\x00\x00\x00\x00\x00\x00" + "\x05" + "\x00\x00\x00\x00\x00\x01\x02" +
				"\x03" + "\x00\x02\x04"},
		{change(nil, nil),
			"\x01" + "\x00\x00\x00\x00\x00\x01" + strings.Repeat("\x00", 10)},
	} {
		if s, e := codec.Encode(c.p); e != api.OK || s != c.want {
			t.Errorf("%v: %q, %d, not %q", c.p, s, e, c.want)
		}
		if p, e := codec.Decode(c.want); e != api.OK || !same(p, c.p) {
			t.Errorf("%q: %v, %d, not %v", c.want, p, e, c.p)
		}
	}
}

// P1.2
func TestEncodeRefuses(t *testing.T) {
	for _, c := range badPackets() {
		if s, e := codec.Encode(c.p); e != c.want || s != "" {
			t.Errorf("%s: %v: %q, %d, not %d", c.name, c.p, s, e, c.want)
		}
	}
}

// P1.2
func TestListsStayAsTheyWere(t *testing.T) {
	set := []api.Power{{V: 1, N: 2}, {V: 3, N: 4}, {V: 77, N: 78}}
	done := []int{0, 5, 79}
	p := api.Packet{Kind: api.Change, Id: 9, Set: set[:2], Done: done[:2]}
	codec.Good(p)
	codec.Encode(p)
	if !reflect.DeepEqual(set, []api.Power{{V: 1, N: 2}, {V: 3, N: 4}, {V: 77, N: 78}}) || !reflect.DeepEqual(done, []int{0, 5, 79}) {
		t.Errorf("%v, %v", set, done)
	}
}

// P1.3
func TestDecodeIsTheWayBack(t *testing.T) {
	for _, p := range goodPackets() {
		s, e := codec.Encode(p)
		if e != api.OK || len(s) != 17+8*len(p.Set)+len(p.Done) {
			t.Fatalf("%v: %q, %d", p, s, e)
		}
		if q, e := codec.Decode(s); e != api.OK || !same(p, q) {
			t.Errorf("%v: %v, %d", p, q, e)
		}
	}
}

// P1.3
func TestDecodeWantsJustAsManyBytes(t *testing.T) {
	for _, p := range goodPackets() {
		s, _ := codec.Encode(p)
		for n := range len(s) {
			if q, e := codec.Decode(s[:n]); e != api.ErrForm || !isZero(q) {
				t.Errorf("%q cut to %d: %v, %d", s, n, q, e)
			}
		}
		for _, more := range []string{"\x00", "\x01", "x", s, strings.Repeat("\x00", 1000)} {
			if q, e := codec.Decode(s + more); e != api.ErrForm || !isZero(q) {
				t.Errorf("%q and %q: %v, %d", s, more, q, e)
			}
		}
	}
}

// raw is 15 bytes of a head, and behind them what is handed in.
func raw(kind, id, v, n byte, lists string) string {
	head := make([]byte, 15)
	head[0], head[6], head[7], head[14] = kind, id, v, n
	return string(head) + lists
}

// P1.3
func TestDecodeRefuses(t *testing.T) {
	high := strings.Repeat("\xff", 300*8)
	for _, c := range []struct {
		name string
		s    string
		want api.Errno
	}{
		{"nothing", "", api.ErrForm},
		{"text", "suzerain", api.ErrForm},
		{"zeros", raw(0, 0, 0, 0, "\x00\x00"), api.ErrKind},
		{"kind 5", raw(5, 1, 0, 0, "\x00\x00"), api.ErrKind},
		{"kind 255", raw(255, 1, 0, 0, "\x00\x00"), api.ErrKind},
		{"kind 5, cut: the form comes first", raw(5, 1, 0, 0, "\x00"), api.ErrForm},
		{"kind 5, too long: the form comes first", raw(5, 1, 0, 0, "\x00\x00\x00"), api.ErrForm},
		{"id 0", raw(2, 0, 0, 0, "\x00\x00"), api.ErrRange},
		{"id 0, cut", raw(2, 0, 0, 0, "\x00"), api.ErrForm},
		{"id too great", "\x02\x01\x00\x00\x00\x00\x01" + strings.Repeat("\x00", 10), api.ErrRange},
		{"highest bit of id", "\x02\x80\x00\x00\x00\x00\x01" + strings.Repeat("\x00", 10), api.ErrRange},
		{"down of validator 6", raw(3, 1, 6, 1, "\x00\x00"), api.ErrRange},
		{"double of validator 255", raw(4, 1, 255, 1, "\x00\x00"), api.ErrRange},
		{"down with power 0", raw(3, 1, 1, 0, "\x00\x00"), api.ErrRange},
		{"power too great", "\x03\x00\x00\x00\x00\x00\x01\x00\x04\x00\x00\x00\x00\x00\x01\x00\x00", api.ErrRange},
		{"highest bit of power", "\x03\x00\x00\x00\x00\x00\x01\x00\x80\x00\x00\x00\x00\x00\x01\x00\x00", api.ErrRange},
		{"matured with V", raw(2, 1, 1, 0, "\x00\x00"), api.ErrForm},
		{"matured with a set", raw(2, 1, 0, 0, "\x01\x00\x00\x00\x00\x00\x00\x00\x00\x00"), api.ErrForm},
		{"double with done", raw(4, 1, 0, 1, "\x00\x01\x00"), api.ErrForm},
		{"change with N", raw(1, 1, 0, 1, "\x00\x00"), api.ErrForm},
		{"twice in set", raw(1, 1, 0, 0, "\x02"+strings.Repeat("\x01\x00\x00\x00\x00\x00\x00\x01", 2)+"\x00"), api.ErrRange},
		{"set of validator 6", raw(1, 1, 0, 0, "\x01\x06\x00\x00\x00\x00\x00\x00\x01\x00"), api.ErrRange},
		{"falling done", raw(1, 1, 0, 0, "\x00\x02\x02\x01"), api.ErrRange},
		{"done of validator 255", raw(1, 1, 0, 0, "\x00\x01\xff"), api.ErrRange},
		{"255 powers that are there", raw(1, 1, 0, 0, "\xff"+high[:255*8]+"\x00"), api.ErrRange},
		{"255 done that are there", raw(1, 1, 0, 0, "\x00\xff"+high[:255]), api.ErrRange},
		{"255 powers, one byte wanting", raw(1, 1, 0, 0, "\xff"+high[:255*8]), api.ErrForm},
		{"255 done, one wanting", raw(1, 1, 0, 0, "\x00\xff"+high[:254]), api.ErrForm},
		{"a power cut in its middle", raw(1, 1, 0, 0, "\x01\x00\x00\x00\x00"), api.ErrForm},
		{"all bits", high, api.ErrForm},
	} {
		if p, e := codec.Decode(c.s); e != c.want || !isZero(p) {
			t.Errorf("%s: %q: %v, %d, not %d", c.name, c.s, p, e, c.want)
		}
	}
}

// checkDecode: what is decoded is good, and its bytes are those that were handed in; with an error nothing is.
func checkDecode(t *testing.T, s string) {
	t.Helper()
	p, e := codec.Decode(s)
	if e != api.OK {
		if !isZero(p) {
			t.Errorf("%q: %v with %d", s, p, e)
		}
		return
	}
	if back, e := codec.Encode(p); e != api.OK || back != s {
		t.Errorf("%q: %v: %q, %d", s, p, back, e)
	}
}

// P1.3
func TestDecodeOfEveryChangedByte(t *testing.T) {
	for _, p := range goodPackets() {
		s, _ := codec.Encode(p)
		for i := range len(s) {
			for b := range 256 {
				changed := []byte(s)
				changed[i] = byte(b)
				checkDecode(t, string(changed))
			}
		}
	}
}

// P1.3
func TestDecodedListsAreNew(t *testing.T) {
	s, _ := codec.Encode(everyone())
	first, _ := codec.Decode(s)
	first.Set[0].N, first.Done[0] = 99, 99
	if second, e := codec.Decode(s); e != api.OK || !same(second, everyone()) {
		t.Errorf("%v, %d", second, e)
	}
}

// P1.3
func FuzzDecode(f *testing.F) {
	for _, p := range goodPackets() {
		s, _ := codec.Encode(p)
		f.Add(s)
	}
	f.Fuzz(checkDecode)
}

package wire

import (
	"bytes"
	"math"
	"strings"
	"testing"

	"tenure/api"
	"tenure/plain"
)

// die: numbers that look drawn, the same each time.
type die uint64

func (d *die) below(most int) int {
	*d = *d*6364136223846793005 + 1442695040888963407
	return int(uint64(*d>>11) % uint64(most))
}

// number is one from 0 to MaxTime, of any length.
func (d *die) number() int {
	return d.below(min(1<<d.below(42), api.MaxTime+1))
}

// text is one of at most MaxData bytes, any bytes.
func (d *die) text() string {
	b := make([]byte, d.below(api.MaxData+1))
	for i := range b {
		b[i] = byte(d.below(256))
	}
	return string(b)
}

// msg is a message that may be.
func (d *die) msg() Msg {
	return Msg{
		Kind: Read + d.below(Inval), Client: d.number(), Number: d.number(), Epoch: d.number(), Session: d.number(),
		Object: d.number(), Version: d.number(), Lease: d.below(2) == 0, Data: d.text(),
	}
}

// is says whether an error is that one, without a place.
func is(err error, want api.Errno) bool {
	e, bare := plain.Bare(err)
	return e == want && bare
}

// encode is Encode of a message that may be.
func encode(t *testing.T, m Msg) []byte {
	t.Helper()
	b, err := Encode(m)
	if err != nil {
		t.Fatalf("Encode(%+v) is %v", m, err)
	}
	return b
}

// form: bytes that are no message.
func form(t *testing.T, b []byte) {
	t.Helper()
	if m, err := Decode(b); m != (Msg{}) || !is(err, api.ErrForm) {
		t.Errorf("Decode(%v) is %+v, %v", b, m, err)
	}
}

func TestKinds(t *testing.T) {
	for i, kind := range []int{Read, Write, Renew, Ack, Value, Done, Granted, Flush, Inval} {
		if kind != i+1 {
			t.Errorf("the %d-th kind is %d", i+1, kind)
		}
	}
}

// TestBytes: what is written is what the document says, byte by byte, and reads as what it was.
func TestBytes(t *testing.T) {
	const top = api.MaxTime
	most := []byte{128, 128, 128, 128, 128, 32} // MaxTime: five bytes of noughts, and 2^5 of 2^35
	twenty := "\x00\xff\x80" + strings.Repeat("z", api.MaxData-3)
	for _, c := range []struct {
		m    Msg
		want []byte
	}{
		{Msg{Kind: Read}, []byte{1, 0, 0, 0, 0, 0, 0, 0, 0}},
		{Msg{Kind: Inval}, []byte{9, 0, 0, 0, 0, 0, 0, 0, 0}},
		{Msg{Kind: Value, Client: 1, Number: 2, Epoch: 3, Session: 4, Object: 5, Version: 6, Lease: true, Data: "a"}, []byte{5, 1, 2, 3, 4, 5, 6, 1, 1, 'a'}},
		{Msg{Kind: Write, Number: 127}, []byte{2, 0, 127, 0, 0, 0, 0, 0, 0}},
		{Msg{Kind: Write, Number: 128}, []byte{2, 0, 128, 1, 0, 0, 0, 0, 0, 0}},
		{Msg{Kind: Write, Number: 129}, []byte{2, 0, 129, 1, 0, 0, 0, 0, 0, 0}},
		{Msg{Kind: Write, Number: 300}, []byte{2, 0, 172, 2, 0, 0, 0, 0, 0, 0}},
		{Msg{Kind: Write, Number: 1<<14 - 1}, []byte{2, 0, 255, 127, 0, 0, 0, 0, 0, 0}},
		{Msg{Kind: Write, Number: 1 << 14}, []byte{2, 0, 128, 128, 1, 0, 0, 0, 0, 0, 0}},
		{Msg{Kind: Ack, Version: top}, append([]byte{4, 0, 0, 0, 0, 0}, append(most, 0, 0)...)},
		{Msg{Kind: Ack, Client: top - 1}, []byte{4, 255, 255, 255, 255, 255, 31, 0, 0, 0, 0, 0, 0, 0}},
		{Msg{Kind: Done, Data: twenty}, append([]byte{6, 0, 0, 0, 0, 0, 0, 0, 20}, twenty...)},
		{Msg{Kind: Flush, Lease: true, Data: "\x00"}, []byte{8, 0, 0, 0, 0, 0, 0, 1, 1, 0}},
		{Msg{Renew, top, top, top, top, top, top, true, twenty}, append(append(append([]byte{3}, bytes.Repeat(most, 6)...), 1, 20), twenty...)},
	} {
		b, err := Encode(c.m)
		if err != nil || !bytes.Equal(b, c.want) {
			t.Errorf("Encode(%+v) is %v, %v, not %v", c.m, b, err, c.want)
		}
		if m, err := Decode(c.want); err != nil || m != c.m {
			t.Errorf("Decode(%v) is %+v, %v, not %+v", c.want, m, err, c.m)
		}
	}
}

// TestMayNotBe: a message of which one thing alone may not be is ErrArg, whatever else it has.
func TestMayNotBe(t *testing.T) {
	good := Msg{Value, 1, 2, 3, 4, 5, 6, true, "abc"}
	encode(t, good)
	wrong := []int{-1, -128, -api.MaxTime, math.MinInt, api.MaxTime + 1, 2 * api.MaxTime, 1 << 42, 1 << 62, math.MaxInt}
	arg := func(m Msg) {
		t.Helper()
		if b, err := Encode(m); len(b) != 0 || !is(err, api.ErrArg) {
			t.Errorf("Encode(%+v) is %v, %v", m, b, err)
		}
	}
	for _, n := range append(wrong, 0, 10, 11, 127, 128, 129, 257, 1<<32+1, api.MaxTime) {
		m := good
		m.Kind = n
		arg(m)
	}
	for _, n := range wrong {
		for at := range 6 {
			m := good
			*[]*int{&m.Client, &m.Number, &m.Epoch, &m.Session, &m.Object, &m.Version}[at] = n
			arg(m)
		}
	}
	for _, n := range []int{api.MaxData + 1, 127, 128, 255, 256, 257, 256 + api.MaxData, 1 << 16, api.MaxText} {
		m := good
		m.Data = strings.Repeat("x", n)
		arg(m)
	}
	arg(Msg{})
}

// TestThereAndBack: each message's bytes are that message, and no other one's.
func TestThereAndBack(t *testing.T) {
	d := die(1)
	whose := map[string]Msg{}
	for range 20_000 {
		m := d.msg()
		b := encode(t, m)
		if got, err := Decode(b); err != nil || got != m {
			t.Fatalf("Decode(%v) is %+v, %v, not %+v", b, got, err, m)
		}
		if other, ok := whose[string(b)]; ok && other != m {
			t.Fatalf("%+v and %+v are both %v", m, other, b)
		}
		whose[string(b)] = m
	}
}

// TestOtherBytes: whatever bytes are read as a message are just those that Encode tells of it.
func TestOtherBytes(t *testing.T) {
	d := die(2)
	read := 0
	check := func(b []byte) {
		t.Helper()
		m, err := Decode(b)
		if err != nil {
			form(t, b)
			return
		}
		read++
		if told := encode(t, m); !bytes.Equal(told, b) {
			t.Fatalf("Decode(%v) is %+v, which is %v", b, m, told)
		}
	}
	for range 60 {
		b := encode(t, d.msg())
		for i := range b {
			for what := 1; what < 256; what++ {
				b[i] ^= byte(what)
				check(b)
				b[i] ^= byte(what)
			}
			check(append(append(bytes.Clone(b[:i]), byte(d.below(256))), b[i:]...))
			check(append(bytes.Clone(b[:i]), b[i+1:]...))
		}
	}
	for range 200_000 {
		b := make([]byte, d.below(16))
		for i := range b {
			b[i] = byte(d.below([]int{3, 10, 256}[d.below(3)]))
		}
		check(b)
	}
	if read < 1000 {
		t.Errorf("only %d of them were messages", read)
	}
}

// TestCutShort: of a message's bytes neither a beginning, nor an end, nor more than all of them is a message.
func TestCutShort(t *testing.T) {
	d := die(3)
	for range 1000 {
		b := encode(t, d.msg())
		for n := range b {
			form(t, b[:n])
		}
		for behind := range 256 {
			form(t, append(bytes.Clone(b), byte(behind)))
		}
		form(t, append(bytes.Clone(b), b...))
	}
	form(t, nil)
	form(t, []byte{})
}

// with is a message's bytes (all of its numbers noughts but the kind) in which the at-th number is written so.
func with(at int, number ...byte) []byte {
	b := []byte{1, 0, 0, 0, 0, 0, 0}
	return append(append(append(bytes.Clone(b[:at]), number...), b[at+1:]...), 0, 0)
}

// TestNumbersOfAnotherForm: each number has one form alone, and is at most MaxTime.
func TestNumbersOfAnotherForm(t *testing.T) {
	long := func(n int, last ...byte) []byte { return append(bytes.Repeat([]byte{128}, n), last...) }
	for at := range 7 {
		form(t, with(at, 129, 0))                                              // 1, with a nought
		form(t, with(at, 129, 128, 0))                                         // with two
		form(t, with(at, long(1, 0)...))                                       // 0, with a nought
		form(t, with(at, append([]byte{129}, long(8, 0)...)...))               // 1, in ten bytes
		form(t, with(at, append([]byte{129}, long(9, 0)...)...))               // in eleven
		form(t, with(at, append([]byte{129}, long(8, 2)...)...))               // 1 + 2^64
		form(t, with(at, append([]byte{129}, long(9, 1)...)...))               // 1 + 2^70
		form(t, with(at, append([]byte{129}, long(90, 1)...)...))              // 1 + 2^637
		form(t, with(at, 129, 128, 128, 128, 128, 32))                         // MaxTime + 1
		form(t, with(at, long(5, 64)...))                                      // 2^41
		form(t, with(at, long(6, 1)...))                                       // 2^42
		form(t, with(at, long(9, 1)...))                                       // 2^63: below 0, as an int
		form(t, with(at, append(bytes.Repeat([]byte{255}, 9), 1)...))          // 2^64 - 1
		form(t, with(at, append(bytes.Repeat([]byte{255}, 9), 127)...))        // more than 64 bits
		form(t, with(at, bytes.Repeat([]byte{255}, 100)...))                   // without a last byte
		form(t, append(with(at, long(1000)...), bytes.Repeat(long(1), 50)...)) // neither
	}
	for at := 1; at < 7; at++ {
		if m, err := Decode(with(at, long(5, 32)...)); err != nil || m == (Msg{Kind: Read}) {
			t.Errorf("MaxTime as the %d-th number is %+v, %v", at, m, err)
		}
	}
}

// TestKindsOfAnotherForm: the first number is a kind.
func TestKindsOfAnotherForm(t *testing.T) {
	for kind := range 128 {
		b := with(0, byte(kind))
		if kind < Read || kind > Inval {
			form(t, b)
		} else if m, err := Decode(b); err != nil || m != (Msg{Kind: kind}) {
			t.Errorf("Decode(%v) is %+v, %v", b, m, err)
		}
	}
	form(t, with(0, 129, 2)) // 257
}

// TestLeases: a lease is 1, none is 0.
func TestLeases(t *testing.T) {
	for lease := range 256 {
		b := []byte{7, 0, 0, 0, 0, 0, 0, byte(lease), 1, 'x'}
		if lease > 1 {
			form(t, b)
		} else if m, err := Decode(b); err != nil || m != (Msg{Kind: Granted, Lease: lease == 1, Data: "x"}) {
			t.Errorf("Decode(%v) is %+v, %v", b, m, err)
		}
	}
}

// TestLengths: the text has as many bytes as are told, and MaxData at most.
func TestLengths(t *testing.T) {
	for told := range 256 {
		for _, has := range []int{told - 1, told, told + 1, told + 256} {
			if has < 0 {
				continue
			}
			data := strings.Repeat("y", has)
			b := append([]byte{5, 0, 0, 0, 0, 0, 0, 0, byte(told)}, data...)
			if has != told || told > api.MaxData {
				form(t, b)
			} else if m, err := Decode(b); err != nil || m != (Msg{Kind: Value, Data: data}) {
				t.Errorf("Decode(%v) is %+v, %v", b, m, err)
			}
		}
	}
}

// TestMemory: neither writes into what it is given, nor keeps it, nor answers by what it answered before.
func TestMemory(t *testing.T) {
	m := Msg{Value, 1, 2, 3, 4, 5, 6, true, "abc"}
	one, two := encode(t, m), encode(t, m)
	clean := bytes.Clone(one)
	clear(one[:cap(one)])
	if !bytes.Equal(two, clean) || !bytes.Equal(encode(t, m), clean) {
		t.Errorf("what Encode told has changed: %v", two)
	}
	room := append(bytes.Clone(clean), 7, 7, 7)
	got, err := Decode(room[:len(clean)])
	if err != nil || !bytes.Equal(room[:len(clean)], clean) || !bytes.Equal(room[len(clean):], []byte{7, 7, 7}) {
		t.Errorf("Decode wrote: %v, %v", room, err)
	}
	clear(room)
	if got != m {
		t.Errorf("what Decode told has changed: %+v", got)
	}
}

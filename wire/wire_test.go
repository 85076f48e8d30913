package wire_test

import (
	"bytes"
	"encoding/binary"
	"math"
	"math/rand/v2"
	"slices"
	"sync"
	"testing"

	"notary/api"
	"notary/wire"
)

// roomy answers p with spare room behind it, and a look at whether that room was written to.
func roomy(p []byte) ([]byte, func() bool) {
	room := append(slices.Clone(p), bytes.Repeat([]byte{0xee}, 16)...)
	return room[:len(p)], func() bool {
		return bytes.Equal(room[:len(p)], p) && bytes.Equal(room[len(p):], bytes.Repeat([]byte{0xee}, 16))
	}
}

// uvarEdges are the numbers at which a group more is needed, and their neighbours.
func uvarEdges() []uint64 {
	edges := []uint64{0, 1, 300, math.MaxUint64, math.MaxUint64 - 1}
	for i := 7; i < 64; i += 7 {
		edges = append(edges, 1<<i-1, 1<<i, 1<<i+1)
	}
	return edges
}

func TestP1_1_EachThingIsLaid(t *testing.T) {
	long := bytes.Repeat([]byte{7}, 300)
	for _, c := range []struct {
		name string
		lay  func(w *wire.Writer)
		want []byte
	}{
		{"nothing", func(w *wire.Writer) {}, nil},
		{"U8(0)", func(w *wire.Writer) { w.U8(0) }, []byte{0}},
		{"U8(255)", func(w *wire.Writer) { w.U8(255) }, []byte{255}},
		{"U16(0)", func(w *wire.Writer) { w.U16(0) }, []byte{0, 0}},
		{"U16(258)", func(w *wire.Writer) { w.U16(258) }, []byte{1, 2}},
		{"U16 greatest", func(w *wire.Writer) { w.U16(math.MaxUint16) }, []byte{255, 255}},
		{"U32(0)", func(w *wire.Writer) { w.U32(0) }, []byte{0, 0, 0, 0}},
		{"U32", func(w *wire.Writer) { w.U32(0x81020304) }, []byte{0x81, 2, 3, 4}},
		{"U64(0)", func(w *wire.Writer) { w.U64(0) }, make([]byte, 8)},
		{"U64", func(w *wire.Writer) { w.U64(0x8102030405060708) }, []byte{0x81, 2, 3, 4, 5, 6, 7, 8}},
		{"Uvar(0)", func(w *wire.Writer) { w.Uvar(0) }, []byte{0}},
		{"Uvar(127)", func(w *wire.Writer) { w.Uvar(127) }, []byte{0x7f}},
		{"Uvar(128)", func(w *wire.Writer) { w.Uvar(128) }, []byte{0x80, 1}},
		{"Uvar(300)", func(w *wire.Writer) { w.Uvar(300) }, []byte{0xac, 2}},
		{"Uvar greatest", func(w *wire.Writer) { w.Uvar(math.MaxUint64) }, []byte{255, 255, 255, 255, 255, 255, 255, 255, 255, 1}},
		{"Raw(nil)", func(w *wire.Writer) { w.Raw(nil) }, nil},
		{"Raw of none", func(w *wire.Writer) { w.Raw([]byte{}) }, nil},
		{"Raw", func(w *wire.Writer) { w.Raw([]byte{3, 0, 255}) }, []byte{3, 0, 255}},
		{"Blob(nil)", func(w *wire.Writer) { w.Blob(nil) }, []byte{0}},
		{"Blob of none", func(w *wire.Writer) { w.Blob([]byte{}) }, []byte{0}},
		{"Blob hi", func(w *wire.Writer) { w.Blob([]byte("hi")) }, []byte{2, 0x68, 0x69}},
		{"Blob of 300", func(w *wire.Writer) { w.Blob(long) }, append([]byte{0xac, 2}, long...)},
		{"one behind the other", func(w *wire.Writer) {
			w.U8(1)
			w.Uvar(2)
			w.U16(3)
			w.Blob([]byte{4})
			w.Raw([]byte{5})
			w.U32(6)
		}, []byte{1, 2, 0, 3, 1, 4, 5, 0, 0, 0, 6}},
	} {
		w := new(wire.Writer)
		c.lay(w)
		if got := w.Bytes(); !bytes.Equal(got, c.want) || w.Len() != len(c.want) {
			t.Errorf("%s: % x, Len %d, want % x", c.name, got, w.Len(), c.want)
		}
	}
	for _, v := range uvarEdges() {
		var w wire.Writer
		w.Uvar(v)
		if want := binary.AppendUvarint(nil, v); !bytes.Equal(w.Bytes(), want) {
			t.Errorf("Uvar(%d): % x, want % x", v, w.Bytes(), want)
		}
	}
}

func TestP1_1_BytesIsNewMemoryAndChangesNothing(t *testing.T) {
	var w wire.Writer
	var answers [][]byte
	for i := range 100 {
		w.U8(uint8(i))
		first, second := w.Bytes(), w.Bytes()
		if w.Len() != i+1 || w.Len() != i+1 {
			t.Fatalf("Len %d behind %d bytes", w.Len(), i+1)
		}
		for at := range first {
			first[at] = 0xee
		}
		_ = append(first[:len(first):cap(first)], 0xee)
		answers = append(answers, second)
	}
	for i, p := range answers {
		if len(p) != i+1 {
			t.Fatalf("answer %d has now %d bytes", i, len(p))
		}
		for at, b := range p {
			if int(b) != at {
				t.Fatalf("answer %d changed later: % x", i, p)
			}
		}
		full := p[:cap(p)]
		for at := range full {
			full[at] = 0xdd
		}
	}
	for at, b := range w.Bytes() {
		if int(b) != at {
			t.Fatalf("the Writer's bytes changed through an answer: % x", w.Bytes())
		}
	}
}

func TestP1_1_WhatIsHandedInIsNeitherKeptNorChanged(t *testing.T) {
	for _, c := range []struct {
		name string
		lay  func(w *wire.Writer, p []byte)
		want []byte
	}{
		{"Raw", (*wire.Writer).Raw, []byte{1, 2, 3, 9}},
		{"Blob", (*wire.Writer).Blob, []byte{3, 1, 2, 3, 9}},
	} {
		var w wire.Writer
		p, same := roomy([]byte{1, 2, 3})
		c.lay(&w, p)
		w.U8(9)
		if !same() {
			t.Errorf("%s changed its argument", c.name)
		}
		p[0] = 77
		if !bytes.Equal(w.Bytes(), c.want) {
			t.Errorf("%s kept its argument: % x", c.name, w.Bytes())
		}
	}
}

func TestP1_1_NilWriter(t *testing.T) {
	var w *wire.Writer
	w.U8(1)
	w.U16(1)
	w.U32(1)
	w.U64(1)
	w.Uvar(1)
	w.Raw([]byte{1})
	w.Raw(nil)
	w.Blob([]byte{1})
	w.Blob(nil)
	if len(w.Bytes()) != 0 || w.Len() != 0 {
		t.Errorf("a nil Writer tells % x, Len %d", w.Bytes(), w.Len())
	}
}

func TestP1_2_NewReader(t *testing.T) {
	for _, p := range [][]byte{nil, {}} {
		r := wire.NewReader(p)
		if r == nil {
			t.Fatal("NewReader of no bytes is nil")
		}
		if r.At() != 0 || r.Err() != api.OK || r.Done() != api.OK {
			t.Errorf("over no bytes: At %d, Err %d, Done %d", r.At(), r.Err(), r.Done())
		}
	}
	p, same := roomy([]byte{1, 2, 3, 4, 2, 5, 6})
	r := wire.NewReader(p)
	if r.At() != 0 || r.Err() != api.OK || r.Done() != api.ErrForm {
		t.Errorf("at the beginning: At %d, Err %d, Done %d", r.At(), r.Err(), r.Done())
	}
	raw := r.Raw(2)
	raw[0] = 0xdd
	_ = append(raw, 0xdd)
	if !same() {
		t.Error("the argument changed through an answer")
	}
	clear(p)
	if v := r.U16(); v != 0x0304 {
		t.Errorf("a later change of p is seen: %x", v)
	}
	if b := r.Blob(2); !bytes.Equal(b, []byte{5, 6}) {
		t.Errorf("a later change of p is seen: % x", b)
	}
}

func TestP1_3_TakingOff(t *testing.T) {
	given := []byte{
		0xff,
		0x81, 2,
		0x81, 2, 3, 4,
		0x81, 2, 3, 4, 5, 6, 7, 8,
		0, 0x7f, 0xac, 2,
		9, 8,
		2, 'h', 'i', 0, 1, 'x',
	}
	r := wire.NewReader(given)
	at := func(want int) {
		t.Helper()
		if r.At() != want || r.Err() != api.OK {
			t.Fatalf("At %d, Err %d, want %d, OK", r.At(), r.Err(), want)
		}
	}
	if v := r.U8(); v != 255 {
		t.Errorf("U8 = %d", v)
	}
	at(1)
	if v := r.U16(); v != 0x8102 {
		t.Errorf("U16 = %x", v)
	}
	at(3)
	if v := r.U32(); v != 0x81020304 {
		t.Errorf("U32 = %x", v)
	}
	at(7)
	if v := r.U64(); v != 0x8102030405060708 {
		t.Errorf("U64 = %x", v)
	}
	at(15)
	if a, b, c := r.Uvar(), r.Uvar(), r.Uvar(); a != 0 || b != 127 || c != 300 {
		t.Errorf("Uvar = %d, %d, %d", a, b, c)
	}
	at(19)
	if p := r.Raw(0); len(p) != 0 {
		t.Errorf("Raw(0) = % x", p)
	}
	at(19)
	if p := r.Raw(2); !bytes.Equal(p, []byte{9, 8}) {
		t.Errorf("Raw(2) = % x", p)
	}
	at(21)
	if p := r.Blob(2); string(p) != "hi" {
		t.Errorf("Blob = %q", p)
	}
	at(24)
	if p := r.Blob(0); len(p) != 0 {
		t.Errorf("Blob(0) = %q", p)
	}
	at(25)
	if p := r.Blob(math.MaxInt); string(p) != "x" {
		t.Errorf("Blob = %q", p)
	}
	at(len(given))
	if p := r.Raw(0); len(p) != 0 {
		t.Errorf("Raw(0) at the end = % x", p)
	}
	at(len(given))
	if r.Done() != api.OK {
		t.Errorf("Done = %d", r.Done())
	}
}

func TestP1_3_ListsAreNewMemory(t *testing.T) {
	r := wire.NewReader([]byte{1, 2, 2, 3, 4, 5, 6})
	a := r.Raw(2)
	_ = append(a, 0xdd, 0xdd)
	b := r.Blob(9)
	_ = append(b, 0xdd, 0xdd)
	c := r.Raw(2)
	if !bytes.Equal(a, []byte{1, 2}) || !bytes.Equal(b, []byte{3, 4}) || !bytes.Equal(c, []byte{5, 6}) {
		t.Errorf("lists share memory: % x, % x, % x", a, b, c)
	}
	for _, p := range [][]byte{a, b} {
		clear(p[:cap(p)])
	}
	if !bytes.Equal(c, []byte{5, 6}) {
		t.Errorf("lists share memory: % x", c)
	}
}

// taken is one method of a Reader; it tells whether it answered its zero value.
type taken struct {
	name string
	take func(r *wire.Reader) bool
}

func everyMethod() []taken {
	return []taken{
		{"U8", func(r *wire.Reader) bool { return r.U8() == 0 }},
		{"U16", func(r *wire.Reader) bool { return r.U16() == 0 }},
		{"U32", func(r *wire.Reader) bool { return r.U32() == 0 }},
		{"U64", func(r *wire.Reader) bool { return r.U64() == 0 }},
		{"Uvar", func(r *wire.Reader) bool { return r.Uvar() == 0 }},
		{"Raw(0)", raw(0)},
		{"Raw(1)", raw(1)},
		{"Raw(-1)", raw(-1)},
		{"Raw of the most", raw(math.MaxInt)},
		{"Blob(0)", blob(0)},
		{"Blob(1)", blob(1)},
		{"Blob(-1)", blob(-1)},
		{"Blob of the most", blob(math.MaxInt)},
	}
}

func raw(n int) func(r *wire.Reader) bool {
	return func(r *wire.Reader) bool { return len(r.Raw(n)) == 0 }
}

func blob(most int) func(r *wire.Reader) bool {
	return func(r *wire.Reader) bool { return len(r.Blob(most)) == 0 }
}

func uvar(r *wire.Reader) bool { return r.Uvar() == 0 }

func TestP1_4_Faults(t *testing.T) {
	nine := bytes.Repeat([]byte{0xff}, 9)
	low := bytes.Repeat([]byte{0x80}, 9)
	with := func(p []byte, more ...byte) []byte { return append(slices.Clone(p), more...) }
	for _, c := range []struct {
		name string
		p    []byte
		take func(r *wire.Reader) bool
		e    api.Errno
	}{
		{"U8 of none", nil, func(r *wire.Reader) bool { return r.U8() == 0 }, api.ErrForm},
		{"U16 of one", []byte{1}, func(r *wire.Reader) bool { return r.U16() == 0 }, api.ErrForm},
		{"U32 of three", []byte{1, 2, 3}, func(r *wire.Reader) bool { return r.U32() == 0 }, api.ErrForm},
		{"U64 of seven", []byte{1, 2, 3, 4, 5, 6, 7}, func(r *wire.Reader) bool { return r.U64() == 0 }, api.ErrForm},
		{"Uvar of none", nil, uvar, api.ErrForm},
		{"Uvar 80", []byte{0x80}, uvar, api.ErrForm},
		{"Uvar 80 80", []byte{0x80, 0x80}, uvar, api.ErrForm},
		{"Uvar 80 00", []byte{0x80, 0}, uvar, api.ErrForm},
		{"Uvar 85 00", []byte{0x85, 0, 1}, uvar, api.ErrForm},
		{"Uvar 80 80 00", []byte{0x80, 0x80, 0}, uvar, api.ErrForm},
		{"Uvar of nine and no more", nine, uvar, api.ErrForm},
		{"Uvar, a ninth nought", with(nine[:8], 0), uvar, api.ErrForm},
		{"Uvar, a tenth nought", with(nine, 0), uvar, api.ErrForm},
		{"Uvar, the tenth 2", with(nine, 2), uvar, api.ErrForm},
		{"Uvar, the tenth 3", with(nine, 3), uvar, api.ErrForm},
		{"Uvar, the tenth 7f", with(nine, 0x7f), uvar, api.ErrForm},
		{"Uvar, the tenth 81", with(nine, 0x81, 0), uvar, api.ErrForm},
		{"Uvar of eleven", with(nine, 0x81, 1), uvar, api.ErrForm},
		{"Uvar, the tenth 2 behind noughts", with(low, 2), uvar, api.ErrForm},
		{"Raw(-1)", []byte{1, 2}, raw(-1), api.ErrArg},
		{"Raw of the least", nil, raw(math.MinInt), api.ErrArg},
		{"Raw(2) of one", []byte{1}, raw(2), api.ErrForm},
		{"Raw(1) of none", nil, raw(1), api.ErrForm},
		{"Raw of the most", []byte{1}, raw(math.MaxInt), api.ErrForm},
		{"Blob(-1)", []byte{1, 2}, blob(-1), api.ErrArg},
		{"Blob of the least", []byte{1, 2}, blob(math.MinInt), api.ErrArg},
		{"Blob(-1) of none", nil, blob(-1), api.ErrArg},
		{"Blob(-1), no length", []byte{0x80, 0}, blob(-1), api.ErrArg},
		{"Blob(-1) of too few", []byte{3, 1}, blob(-1), api.ErrArg},
		{"Blob(2) of three", []byte{3, 'a', 'b', 'c'}, blob(2), api.ErrLong},
		{"Blob(2) of three, two left", []byte{3, 'a', 'b'}, blob(2), api.ErrLong},
		{"Blob(0) of one", []byte{1, 'a'}, blob(0), api.ErrLong},
		{"Blob(0) of one, none left", []byte{1}, blob(0), api.ErrLong},
		{"Blob of the most, one more", []byte{0x80, 0x80, 0x80, 0x80, 0x80, 0x80, 0x80, 0x80, 0x80, 1}, blob(math.MaxInt), api.ErrLong},
		{"Blob of the most, all bits", with(nine, 1), blob(math.MaxInt), api.ErrLong},
		{"Blob of the most, as many", with(nine[:8], 0x7f), blob(math.MaxInt), api.ErrForm},
		{"Blob(9) of three, two left", []byte{3, 'a', 'b'}, blob(9), api.ErrForm},
		{"Blob(9) of three, none left", []byte{3}, blob(9), api.ErrForm},
		{"Blob of none", nil, blob(9), api.ErrForm},
		{"Blob, no length", []byte{0x83, 0, 'a'}, blob(2), api.ErrForm},
		{"Blob, a length cut off", []byte{0x83}, blob(2), api.ErrForm},
		{"Blob, a length too great", with(nine, 2), blob(2), api.ErrForm},
	} {
		for _, ahead := range []int{0, 1, 5} {
			r := wire.NewReader(append(bytes.Repeat([]byte{0x41}, ahead), c.p...))
			r.Raw(ahead)
			zero := c.take(r)
			if !zero || r.At() != ahead || r.Err() != c.e || r.Done() != c.e {
				t.Errorf("%s behind %d: zero %t, At %d, Err %d, Done %d, want Err %d", c.name, ahead, zero, r.At(), r.Err(), r.Done(), c.e)
			}
		}
	}
}

func TestP1_4_TheEdgesThatAreNoFaults(t *testing.T) {
	nine := bytes.Repeat([]byte{0x80}, 9)
	for _, c := range []struct {
		name string
		p    []byte
		take func(r *wire.Reader) bool
		at   int
	}{
		{"Uvar 00 behind which 00 stands", []byte{0, 0}, func(r *wire.Reader) bool { return r.Uvar() == 0 }, 1},
		{"Uvar, noughts and a tenth", append(slices.Clone(nine), 1), func(r *wire.Reader) bool { return r.Uvar() == 1<<63 }, 10},
		{"Uvar, a nought inside", []byte{0x80, 0x80, 1}, func(r *wire.Reader) bool { return r.Uvar() == 1<<14 }, 3},
		{"Raw of all", []byte{1, 2}, func(r *wire.Reader) bool { return len(r.Raw(2)) == 2 }, 2},
		{"Blob of most", []byte{3, 'a', 'b', 'c', 9}, func(r *wire.Reader) bool { return string(r.Blob(3)) == "abc" }, 4},
		{"Blob of the most", []byte{3, 'a', 'b', 'c', 9}, func(r *wire.Reader) bool { return string(r.Blob(math.MaxInt)) == "abc" }, 4},
		{"Blob(0) of no bytes", []byte{0}, func(r *wire.Reader) bool { return len(r.Blob(0)) == 0 }, 1},
	} {
		r := wire.NewReader(c.p)
		if !c.take(r) || r.Err() != api.OK || r.At() != c.at {
			t.Errorf("%s: Err %d, At %d, want %d", c.name, r.Err(), r.At(), c.at)
		}
	}
}

func TestP1_4_BehindTheFirstFault(t *testing.T) {
	for _, first := range []struct {
		name string
		take func(r *wire.Reader) bool
		e    api.Errno
	}{
		{"ErrArg", raw(-1), api.ErrArg},
		{"ErrLong", blob(0), api.ErrLong},
		{"ErrForm", raw(1000), api.ErrForm},
	} {
		for _, then := range everyMethod() {
			r := wire.NewReader([]byte{9, 1, 2, 3, 4, 5, 6, 7, 8, 9, 10, 11})
			r.U8()
			first.take(r)
			for range 2 {
				if !then.take(r) || r.At() != 1 || r.Err() != first.e || r.Done() != first.e {
					t.Errorf("%s behind %s: At %d, Err %d, Done %d", then.name, first.name, r.At(), r.Err(), r.Done())
				}
			}
		}
	}
}

func TestP1_5_AtErrAndDoneChangeNothing(t *testing.T) {
	r := wire.NewReader([]byte{5, 6, 7})
	look := func(at int, e, done api.Errno) {
		t.Helper()
		for range 2 {
			if r.Done() != done || r.Err() != e || r.At() != at {
				t.Errorf("At %d, Err %d, Done %d, want %d, %d, %d", r.At(), r.Err(), r.Done(), at, e, done)
			}
		}
	}
	look(0, api.OK, api.ErrForm)
	if r.U8() != 5 {
		t.Error("U8")
	}
	look(1, api.OK, api.ErrForm)
	if r.U16() != 1543 {
		t.Error("U16 behind a Done with bytes left")
	}
	look(3, api.OK, api.OK)
	if r.U8() != 0 {
		t.Error("U8 at the end")
	}
	look(3, api.ErrForm, api.ErrForm)
	r = wire.NewReader([]byte{5})
	r.U8()
	r.Raw(-1)
	look(1, api.ErrArg, api.ErrArg)
	r = wire.NewReader([]byte{5})
	r.Blob(4)
	look(0, api.ErrLong, api.ErrLong)
}

func TestP1_5_NilReaderAndZeroReader(t *testing.T) {
	for _, m := range everyMethod() {
		var none *wire.Reader
		if !m.take(none) || none.At() != 0 || none.Err() != api.ErrNone || none.Done() != api.ErrNone {
			t.Errorf("%s of a nil Reader: At %d, Err %d, Done %d", m.name, none.At(), none.Err(), none.Done())
		}
		bare, over := wire.Reader{}, wire.NewReader(nil)
		if bare.At() != 0 || bare.Err() != api.OK || bare.Done() != api.OK {
			t.Errorf("the zero Reader: At %d, Err %d, Done %d", bare.At(), bare.Err(), bare.Done())
		}
		if !m.take(&bare) || !m.take(over) || bare.At() != 0 || bare.Err() != over.Err() || bare.Done() != over.Done() {
			t.Errorf("%s of the zero Reader: At %d, Err %d, Done %d", m.name, bare.At(), bare.Err(), bare.Done())
		}
	}
}

// thing is one thing that is laid: the method's number, and a number or bytes.
type thing struct {
	method int
	v      uint64
	p      []byte
}

const methods = 7

func lay(w *wire.Writer, x thing) {
	switch x.method {
	case 0:
		w.U8(uint8(x.v))
	case 1:
		w.U16(uint16(x.v))
	case 2:
		w.U32(uint32(x.v))
	case 3:
		w.U64(x.v)
	case 4:
		w.Uvar(x.v)
	case 5:
		w.Raw(x.p)
	case 6:
		w.Blob(x.p)
	}
}

func take(r *wire.Reader, method, length int) thing {
	x := thing{method: method}
	switch method {
	case 0:
		x.v = uint64(r.U8())
	case 1:
		x.v = uint64(r.U16())
	case 2:
		x.v = uint64(r.U32())
	case 3:
		x.v = r.U64()
	case 4:
		x.v = r.Uvar()
	case 5:
		x.p = r.Raw(length)
	case 6:
		x.p = r.Blob(length)
	}
	return x
}

func someThing(seed *rand.Rand) thing {
	x := thing{method: seed.IntN(methods)}
	switch x.method {
	case 5, 6:
		x.p = make([]byte, seed.IntN(200))
		for i := range x.p {
			x.p[i] = byte(seed.Uint32())
		}
	default:
		x.v = seed.Uint64() >> seed.IntN(64)
		if x.method < 3 {
			x.v &= 1<<(8<<x.method) - 1
		}
	}
	return x
}

func TestP1_6_WrittenThenTakenOff(t *testing.T) {
	seed := rand.New(rand.NewPCG(1, 6))
	for range 500 {
		var w wire.Writer
		var things []thing
		for range seed.IntN(20) {
			x := someThing(seed)
			things = append(things, x)
			lay(&w, x)
		}
		for _, more := range []int{0, 1, 1000} {
			r := wire.NewReader(w.Bytes())
			for i, x := range things {
				length := len(x.p)
				if x.method == 6 {
					length += more
				}
				if y := take(r, x.method, length); y.v != x.v || !bytes.Equal(y.p, x.p) {
					t.Fatalf("thing %d of %v: %v", i, things, y)
				}
			}
			if r.Done() != api.OK || r.At() != w.Len() {
				t.Fatalf("%v: Done %d, At %d of %d", things, r.Done(), r.At(), w.Len())
			}
		}
	}
}

func TestP1_6_TakenOffThenWritten(t *testing.T) {
	seed := rand.New(rand.NewPCG(6, 1))
	for range 5000 {
		p := make([]byte, seed.IntN(40))
		for i := range p {
			p[i] = []byte{0, 1, 2, 0x7f, 0x80, 0x81, 0xff, byte(seed.Uint32())}[seed.IntN(8)]
		}
		r := wire.NewReader(p)
		var w wire.Writer
		for {
			x := take(r, seed.IntN(methods), seed.IntN(10))
			if r.Err() != api.OK || w.Len() > 100 {
				break
			}
			lay(&w, x)
			if !bytes.Equal(w.Bytes(), p[:r.At()]) {
				t.Fatalf("% x: taken off up to %d, written again % x", p, r.At(), w.Bytes())
			}
			if r.At() == len(p) {
				break
			}
		}
	}
}

func TestP1_6_OneUvarANumber(t *testing.T) {
	for _, v := range uvarEdges() {
		var w wire.Writer
		w.Uvar(v)
		r := wire.NewReader(w.Bytes())
		if got := r.Uvar(); got != v || r.Done() != api.OK {
			t.Errorf("%d came back as %d, Done %d", v, got, r.Done())
		}
	}
	for n := range 1 << 16 {
		p := []byte{byte(n >> 8), byte(n)}
		r := wire.NewReader(p)
		v := r.Uvar()
		size := 2
		if p[0] < 0x80 {
			size = 1
		}
		if size == 2 && (p[1] == 0 || p[1] >= 0x80) {
			if v != 0 || r.Err() != api.ErrForm || r.At() != 0 {
				t.Fatalf("% x: %d, Err %d, At %d", p, v, r.Err(), r.At())
			}
			continue
		}
		if want, _ := binary.Uvarint(p); v != want || r.Err() != api.OK || r.At() != size {
			t.Fatalf("% x: %d, Err %d, At %d", p, v, r.Err(), r.At())
		}
	}
}

// P1 and P2: the calls hang on their own object alone, however goroutines run.
func TestP2_ManyAtATime(t *testing.T) {
	var group sync.WaitGroup
	for i := range 16 {
		group.Go(func() {
			for round := range 200 {
				var w wire.Writer
				w.Uvar(uint64(i*1000 + round))
				w.Blob(bytes.Repeat([]byte{byte(i)}, round))
				r := wire.NewReader(w.Bytes())
				if r.Uvar() != uint64(i*1000+round) || !bytes.Equal(r.Blob(round), bytes.Repeat([]byte{byte(i)}, round)) || r.Done() != api.OK {
					t.Errorf("goroutine %d, round %d: another's bytes", i, round)
				}
			}
		})
	}
	group.Wait()
}

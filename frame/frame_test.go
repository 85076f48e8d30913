package frame_test

import (
	"bytes"
	"encoding/binary"
	"encoding/hex"
	"hash/crc32"
	"math"
	"math/rand"
	"slices"
	"strings"
	"sync"
	"testing"

	"notary/api"
	"notary/frame"
)

func unhex(t *testing.T, text string) []byte {
	t.Helper()
	p, err := hex.DecodeString(strings.ReplaceAll(text, " ", ""))
	if err != nil {
		t.Fatal(err)
	}
	return p
}

// text answers n bytes that differ from place to place.
func text(n int) []byte {
	p := make([]byte, n)
	rand.New(rand.NewSource(int64(n) + 7)).Read(p)
	return p
}

// laid answers the chapter's table, written a second time without the layers below; it lays lengths too that no frame has.
func laid(place uint64, payload []byte) []byte {
	told := binary.BigEndian.AppendUint32(nil, uint32(len(payload)))
	told = binary.BigEndian.AppendUint64(told, place)
	sum := crc32.Checksum(slices.Concat(told, payload), crc32.MakeTable(crc32.Castagnoli))
	p := append([]byte{0xf5}, told...)
	p = binary.BigEndian.AppendUint32(p, sum)
	p = append(p, payload...)
	return append(p, 0x5f)
}

func made(place uint64, payload string) frame.Frame {
	return frame.Frame{Place: place, Payload: []byte(payload)}
}

func same(a, b frame.Frame) bool { return a.Place == b.Place && bytes.Equal(a.Payload, b.Payload) }

// refNext is P7.2's words: it lays the frame that would have to stand there, and holds it against what does.
func refNext(p []byte, at int) (frame.Frame, int, frame.Kind) {
	if at == len(p) {
		return frame.Frame{}, at, frame.End
	}
	if at < 0 || at > len(p) || len(p)-at < 19 {
		return frame.Frame{}, at, frame.Broken
	}
	length := uint64(binary.BigEndian.Uint32(p[at+1:]))
	if length < 1 || length > 65535 || uint64(len(p)-at) < length+18 {
		return frame.Frame{}, at, frame.Broken
	}
	f := frame.Frame{Place: binary.BigEndian.Uint64(p[at+5:]), Payload: p[at+17 : at+17+int(length)]}
	next := at + int(length) + 18
	if !bytes.Equal(laid(f.Place, f.Payload), p[at:next]) {
		return frame.Frame{}, at, frame.Broken
	}
	return f, next, frame.Whole
}

// checkNext holds Next against P7.2's words.
func checkNext(t *testing.T, p []byte, at int) {
	t.Helper()
	f, next, kind := frame.Next(p, at)
	want, wantNext, wantKind := refNext(p, at)
	if !same(f, want) || next != wantNext || kind != wantKind {
		t.Errorf("Next(%.80x, %d) = %.80v, %d, %d, want %.80v, %d, %d", p, at, f, next, kind, want, wantNext, wantKind)
	}
}

// samples answers frames whose bytes are like one another's in many ways: noughts, the outer bytes, frames in frames, lengths with more than one byte.
func samples() []frame.Frame {
	list := []frame.Frame{
		made(0, "a"), made(0, "\x00"), made(0, "\x5f"), made(0, "\xf5"), made(math.MaxUint64, "\xff"),
		made(1, "a\x00"), made(1, "\x00\x00\x00\x00"), made(1<<56, "\x5f\x00\x5f\x00"), made(0x5f5f5f5f5f5f5f5f, "\x5f\x5f\x5f"),
		made(7, string(laid(8, []byte("within")))), made(300, strings.Repeat("\x00", 40)),
		{Place: 5, Payload: text(255)}, {Place: 6, Payload: text(256)}, {Place: 7, Payload: text(257)}, {Place: 8, Payload: make([]byte, 0x102)},
	}
	r := rand.New(rand.NewSource(70))
	for range 10 {
		list = append(list, frame.Frame{Place: r.Uint64(), Payload: text(1 + r.Intn(60))})
	}
	return list
}

func TestP7_Kinds(t *testing.T) {
	if frame.End != 0 || frame.Whole != 1 || frame.Broken != 2 {
		t.Errorf("End %d, Whole %d, Broken %d", frame.End, frame.Whole, frame.Broken)
	}
}

func TestP7_1_Encode(t *testing.T) {
	p, e := frame.Encode(made(0, "a"))
	if want := unhex(t, "f5 00000001 0000000000000000 e4a0ce20 61 5f"); e != api.OK || !bytes.Equal(p, want) {
		t.Errorf("the first example: %x, %d, want %x", p, e, want)
	}
	p, e = frame.Encode(made(0x0102030405060708, "\x00\xff"))
	if want := laid(0x0102030405060708, []byte{0, 0xff}); e != api.OK || !bytes.Equal(p, want) || !bytes.HasPrefix(p, unhex(t, "f5 00000002 0102030405060708")) {
		t.Errorf("Encode = %x, %d, want %x", p, e, want)
	}
	for _, f := range samples() {
		if p, e := frame.Encode(f); e != api.OK || !bytes.Equal(p, laid(f.Place, f.Payload)) {
			t.Errorf("Encode(%v) = %x, %d", f, p, e)
		}
	}
}

func TestP7_1_Lengths(t *testing.T) {
	for _, place := range []uint64{0, 1, 255, 256, 1 << 32, 1 << 63, math.MaxUint64} {
		for _, n := range []int{1, 2, 3, 255, 256, 257, 65279, 65280, 65534, 65535} {
			payload := text(n)
			p, e := frame.Encode(frame.Frame{Place: place, Payload: payload})
			if e != api.OK || len(p) != n+18 || !bytes.Equal(p, laid(place, payload)) {
				t.Errorf("Encode of %d bytes at %d: %d bytes, %d", n, place, len(p), e)
			}
		}
		for _, n := range []int{65536, 65537, 65536 + 256, 1 << 17, 1 << 24} {
			if p, e := frame.Encode(frame.Frame{Place: place, Payload: make([]byte, n)}); len(p) != 0 || e != api.ErrLong {
				t.Errorf("Encode of %d bytes: %d bytes, %d, want ErrLong", n, len(p), e)
			}
		}
		for _, none := range [][]byte{nil, {}} {
			if p, e := frame.Encode(frame.Frame{Place: place, Payload: none}); len(p) != 0 || e != api.ErrForm {
				t.Errorf("Encode of no bytes: %x, %d, want ErrForm", p, e)
			}
		}
	}
}

func TestP7_2_Next(t *testing.T) {
	one := laid(0, []byte("a"))
	two := laid(9, []byte("second"))
	both := slices.Concat(one, two)
	for _, c := range []struct {
		name string
		p    []byte
		at   int
		want frame.Frame
		next int
		kind frame.Kind
	}{
		{"nothing", nil, 0, frame.Frame{}, 0, frame.End},
		{"no bytes", []byte{}, 0, frame.Frame{}, 0, frame.End},
		{"ahead of nothing", nil, -1, frame.Frame{}, -1, frame.Broken},
		{"behind nothing", nil, 1, frame.Frame{}, 1, frame.Broken},
		{"a frame", one, 0, made(0, "a"), 19, frame.Whole},
		{"its end", one, 19, frame.Frame{}, 19, frame.End},
		{"inside it", one, 1, frame.Frame{}, 1, frame.Broken},
		{"its last byte", one, 18, frame.Frame{}, 18, frame.Broken},
		{"behind it", one, 20, frame.Frame{}, 20, frame.Broken},
		{"far behind it", one, math.MaxInt, frame.Frame{}, math.MaxInt, frame.Broken},
		{"ahead of it", one, -1, frame.Frame{}, -1, frame.Broken},
		{"so far ahead that its frame would be there", one, -19, frame.Frame{}, -19, frame.Broken},
		{"far ahead of it", one, math.MinInt, frame.Frame{}, math.MinInt, frame.Broken},
		{"the first of two", both, 0, made(0, "a"), 19, frame.Whole},
		{"the second of two", both, 19, made(9, "second"), 43, frame.Whole},
		{"the end of two", both, 43, frame.Frame{}, 43, frame.End},
		{"a byte ahead of a frame", append([]byte{0}, one...), 0, frame.Frame{}, 0, frame.Broken},
		{"behind that byte", append([]byte{0}, one...), 1, made(0, "a"), 20, frame.Whole},
		{"a frame within the payload of another", laid(3, one), 17, made(0, "a"), 36, frame.Whole},
		{"a frame's beginning", two[:20], 0, frame.Frame{}, 0, frame.Broken},
		{"another frame's end behind it", slices.Concat(two[:20], one), 0, frame.Frame{}, 0, frame.Broken},
		{"noughts", make([]byte, 100), 0, frame.Frame{}, 0, frame.Broken},
		{"one byte", []byte{0xf5}, 0, frame.Frame{}, 0, frame.Broken},
	} {
		f, next, kind := frame.Next(c.p, c.at)
		if !same(f, c.want) || next != c.next || kind != c.kind {
			t.Errorf("%s: %v, %d, %d, want %v, %d, %d", c.name, f, next, kind, c.want, c.next, c.kind)
		}
		checkNext(t, c.p, c.at)
	}
}

func TestP7_2_LengthsThatNoFrameHas(t *testing.T) {
	for _, n := range []int{0, 65536, 65537, 70000} {
		p := laid(4, make([]byte, n)) // its sum and its outer bytes are right
		for _, behind := range [][]byte{nil, {0x5f}, p} {
			if f, next, kind := frame.Next(slices.Concat(p, behind), 0); kind != frame.Broken || next != 0 || !same(f, frame.Frame{}) {
				t.Errorf("a payload of %d bytes: %v, %d, %d", n, f, next, kind)
			}
		}
	}
	if _, next, kind := frame.Next(laid(4, make([]byte, 65535)), 0); kind != frame.Whole || next != 65535+18 {
		t.Errorf("the greatest payload: %d, %d", next, kind)
	}
	for _, length := range []uint32{1 << 31, 1<<31 - 1, math.MaxUint32, math.MaxUint32 - 17, 1 << 24, 1<<24 + 1, 1<<16 + 1} {
		p := laid(4, []byte("a"))
		binary.BigEndian.PutUint32(p[1:], length)
		binary.BigEndian.PutUint32(p[13:], crc32.Checksum(append(slices.Clone(p[1:13]), 'a'), crc32.MakeTable(crc32.Castagnoli)))
		if _, next, kind := frame.Next(p, 0); kind != frame.Broken || next != 0 {
			t.Errorf("a length of %d: %d, %d", length, next, kind)
		}
	}
}

// TestP7_2_EachPlace goes to all places of texts that are frames, nearly frames and neither.
func TestP7_2_EachPlace(t *testing.T) {
	r := rand.New(rand.NewSource(72))
	list := samples()
	for range 300 {
		var p []byte
		for range r.Intn(4) {
			f := list[r.Intn(len(list))]
			piece := laid(f.Place, f.Payload)
			switch r.Intn(5) {
			case 0:
				piece = piece[:r.Intn(len(piece))]
			case 1:
				piece[r.Intn(min(20, len(piece)))] ^= 1 << r.Intn(8)
			case 2:
				piece = append(piece, make([]byte, r.Intn(3))...)
			}
			p = append(p, piece...)
		}
		for at := -2; at <= len(p)+2; at++ {
			checkNext(t, p, at)
		}
	}
}

func TestP7_3_Scan(t *testing.T) {
	a, b, c := laid(1, []byte("one")), laid(2, []byte("two")), laid(3, []byte("three"))
	list := []frame.Frame{made(1, "one"), made(2, "two"), made(3, "three")}
	for _, x := range []struct {
		name string
		p    []byte
		want []frame.Frame
		at   int
	}{
		{"nothing", nil, nil, 0},
		{"noughts", make([]byte, 3), nil, 0},
		{"a byte ahead", append([]byte{9}, a...), nil, 0},
		{"one", a, list[:1], len(a)},
		{"three", slices.Concat(a, b, c), list, len(a) + len(b) + len(c)},
		{"the third without its last byte", slices.Concat(a, b, c[:len(c)-1]), list[:2], len(a) + len(b)},
		{"the second without its last byte", slices.Concat(a, b[:len(b)-1], c), list[:1], len(a)},
		{"a byte between", slices.Concat(a, []byte{0}, b, c), list[:1], len(a)},
		{"noughts behind", slices.Concat(a, b, make([]byte, 50)), list[:2], len(a) + len(b)},
		{"the same one twice", slices.Concat(a, a), []frame.Frame{list[0], list[0]}, 2 * len(a)},
		{"one whose payload has frames", laid(4, slices.Concat(a, b)), []frame.Frame{{Place: 4, Payload: slices.Concat(a, b)}}, len(a) + len(b) + 18},
		{"a beginning whose payload has frames", laid(4, slices.Concat(a, b))[:len(a)+len(b)+17], nil, 0},
	} {
		got, at := frame.Scan(x.p)
		if at != x.at || !slices.EqualFunc(got, x.want, same) {
			t.Errorf("%s: %v, %d, want %v, %d", x.name, got, at, x.want, x.at)
		}
	}
}

// TestP7_3_AsNextGoes holds Scan against Next, with frames cut and turned among whole ones.
func TestP7_3_AsNextGoes(t *testing.T) {
	r := rand.New(rand.NewSource(73))
	list := samples()
	for range 500 {
		var p []byte
		for range r.Intn(7) {
			f := list[r.Intn(len(list))]
			piece := laid(f.Place, f.Payload)
			if r.Intn(6) == 0 {
				piece[r.Intn(len(piece))] ^= 0x20
			}
			p = append(p, piece...)
		}
		p = p[:len(p)-r.Intn(len(p)+1)/8]
		var want []frame.Frame
		behind := 0
		for {
			f, next, kind := refNext(p, behind)
			if kind != frame.Whole {
				break
			}
			want, behind = append(want, f), next
		}
		if got, at := frame.Scan(p); at != behind || !slices.EqualFunc(got, want, same) {
			t.Errorf("Scan(%x) = %v, %d, want %v, %d", p, got, at, want, behind)
		}
	}
}

func TestP7_3_ManyFrames(t *testing.T) {
	const count = 20000
	p := bytes.Repeat(laid(1, []byte("short")), count)
	if got, at := frame.Scan(p); len(got) != count || at != len(p) {
		t.Errorf("%d frames, %d", len(got), at)
	}
}

func TestP7_4_ThereAndBack(t *testing.T) {
	list := append(samples(), frame.Frame{Place: 1, Payload: text(65535)}, frame.Frame{Place: 2, Payload: text(65534)})
	for _, f := range list {
		p, e := frame.Encode(f)
		if e != api.OK {
			t.Fatalf("Encode(%.80v): %d", f, e)
		}
		for _, behind := range [][]byte{nil, {0}, {0x5f}, {0xf5}, make([]byte, 40), text(30), p} {
			for _, ahead := range [][]byte{nil, {0xf5}, text(25), p} {
				all := slices.Concat(ahead, p, behind)
				got, next, kind := frame.Next(all, len(ahead))
				if kind != frame.Whole || next != len(ahead)+len(p) || !same(got, f) {
					t.Fatalf("%d bytes with %d ahead and %d behind: %.80v, %d, %d", len(p), len(ahead), len(behind), got, next, kind)
				}
				again, e := frame.Encode(got)
				if e != api.OK || !bytes.Equal(again, all[len(ahead):next]) {
					t.Fatalf("the frame that was told has other bytes than stand there: %.80x, %d", again, e)
				}
			}
		}
	}
}

func TestP7_5_Torn(t *testing.T) {
	for _, f := range samples() {
		p, _ := frame.Encode(f)
		for cut := range p {
			torn := append(slices.Clone(p[:cut]), make([]byte, len(p)+300)...)
			for noughts := range 2*len(p) - cut {
				if noughts > 50 && noughts < len(p)-cut-3 {
					continue
				}
				if _, next, kind := frame.Next(torn[:cut+noughts], 0); kind == frame.Whole {
					t.Fatalf("%x cut at %d with %d noughts behind is a frame up to %d", p, cut, noughts, next)
				}
			}
			if _, _, kind := frame.Next(torn, 0); kind == frame.Whole {
				t.Fatalf("%x cut at %d with many noughts behind is a frame", p, cut)
			}
		}
	}
}

// TestP7_5_TornLong cuts where the length is cut too, with so many noughts behind that each length would have its bytes.
func TestP7_5_TornLong(t *testing.T) {
	for _, n := range []int{0x0101, 0x0100, 0xff01, 0xff00, 65535} {
		p, _ := frame.Encode(frame.Frame{Place: 3, Payload: make([]byte, n)})
		for _, cut := range []int{0, 1, 2, 3, 4, 5, 6, 12, 13, 14, 16, 17, 18, n / 2, n + 16, n + 17} {
			for _, noughts := range []int{0, 1, n + 17 - cut, n + 18 - cut, n + 19 - cut, 65536 + 18} {
				if _, _, kind := frame.Next(append(slices.Clone(p[:cut]), make([]byte, noughts)...), 0); kind == frame.Whole {
					t.Errorf("a frame of %d bytes cut at %d with %d noughts behind is a frame", n, cut, noughts)
				}
			}
		}
	}
}

func TestP7_6_Turned(t *testing.T) {
	for _, f := range samples() {
		p, _ := frame.Encode(f)
		for i := range p {
			if i >= 1 && i <= 4 {
				continue
			}
			was := p[i]
			for turn := 1; turn < 256; turn++ {
				p[i] = was ^ byte(turn)
				if got, next, kind := frame.Next(p, 0); kind != frame.Broken || next != 0 || !same(got, frame.Frame{}) {
					t.Fatalf("byte %d of %d turned from %02x to %02x: %v, %d, %d", i, len(p), was, p[i], got, next, kind)
				}
			}
			p[i] = was
		}
	}
}

func TestP7_6_TurnedLong(t *testing.T) {
	p, _ := frame.Encode(frame.Frame{Place: 9, Payload: text(65535)})
	for _, i := range []int{0, 5, 12, 13, 16, 17, 18, 255, 256, 30000, 65534, len(p) - 3, len(p) - 2, len(p) - 1} {
		for _, turn := range []byte{1, 0x80, 0xff} {
			p[i] ^= turn
			if _, _, kind := frame.Next(p, 0); kind != frame.Broken {
				t.Errorf("byte %d turned by %02x: %d", i, turn, kind)
			}
			p[i] ^= turn
		}
	}
}

// roomy answers p with spare room behind it.
func roomy(p []byte) []byte { return append(slices.Clone(p), "spare room"...)[:len(p)] }

// scrawl writes over p and its spare room.
func scrawl(p []byte) {
	for i := range p[:cap(p)] {
		p[:cap(p)][i] ^= 0xa5
	}
}

// whole answers a copy of p and of its spare room.
func whole(p []byte) []byte { return slices.Clone(p[:cap(p)]) }

func TestMemory_Encode(t *testing.T) {
	payload := roomy([]byte("payload"))
	was := whole(payload)
	want := laid(5, []byte("payload"))
	p, _ := frame.Encode(frame.Frame{Place: 5, Payload: payload})
	again, _ := frame.Encode(frame.Frame{Place: 5, Payload: payload})
	scrawl(p)
	if !bytes.Equal(again, want) || !bytes.Equal(whole(payload), was) {
		t.Fatal("an answer shares memory with another one, or with what was handed in")
	}
	scrawl(payload)
	if !bytes.Equal(again, want) {
		t.Error("an answer changes with what was handed in")
	}
}

func TestMemory_Next(t *testing.T) {
	p := roomy(laid(5, []byte("payload")))
	was := whole(p)
	f, _, _ := frame.Next(p, 0)
	again, _, _ := frame.Next(p, 0)
	scrawl(f.Payload)
	if !bytes.Equal(whole(p), was) || !same(again, made(5, "payload")) {
		t.Fatal("an answer shares memory with another one, or with what was handed in")
	}
	scrawl(p)
	if !same(again, made(5, "payload")) {
		t.Error("an answer changes with what was handed in")
	}
}

func TestMemory_Scan(t *testing.T) {
	want := []frame.Frame{made(1, "one"), made(2, "two"), made(3, "three")}
	var all []byte
	for _, f := range want {
		all = append(all, laid(f.Place, f.Payload)...)
	}
	p := roomy(all)
	was := whole(p)
	got, _ := frame.Scan(p)
	again, _ := frame.Scan(p)
	if !bytes.Equal(whole(p), was) {
		t.Fatal("what was handed in has changed")
	}
	for i := range got {
		kept := slices.Clone(got[i].Payload)
		scrawl(got[i].Payload)
		got[i].Payload = kept
		if !slices.EqualFunc(got, want, same) || !slices.EqualFunc(again, want, same) || !bytes.Equal(whole(p), was) {
			t.Fatalf("the payload %d shares memory", i)
		}
	}
	spare := got[:cap(got)]
	for i := range spare {
		spare[i] = made(99, "written over")
	}
	scrawl(p)
	if !slices.EqualFunc(again, want, same) {
		t.Error("an answer changes with another one, or with what was handed in")
	}
}

// TestP1_AnyBytes hands in bytes that begin as a frame does and go on anyhow.
func TestP1_AnyBytes(t *testing.T) {
	r := rand.New(rand.NewSource(71))
	for range 20000 {
		p := text(r.Intn(40))
		for i := range min(r.Intn(6), len(p)) {
			p[i] = []byte{0xf5, 0, 0, 0, byte(r.Intn(30))}[i]
		}
		at := r.Intn(50) - 5
		checkNext(t, p, at)
		if got, behind := frame.Scan(p); len(got) != 0 || behind != 0 {
			t.Errorf("Scan(%x) = %v, %d", p, got, behind)
		}
	}
}

func TestP2_ManyAtATime(t *testing.T) {
	list := samples()
	var p []byte
	for _, f := range list {
		p = append(p, laid(f.Place, f.Payload)...)
	}
	var all sync.WaitGroup
	for worker := range 8 {
		all.Go(func() {
			for i := range 50 {
				f := list[(i+worker)%len(list)]
				q, e := frame.Encode(f)
				got, next, kind := frame.Next(q, 0)
				if e != api.OK || kind != frame.Whole || next != len(q) || !same(got, f) {
					t.Errorf("worker %d: %v, %d, %d", worker, got, next, kind)
				}
				if found, at := frame.Scan(p); at != len(p) || !slices.EqualFunc(found, list, same) {
					t.Errorf("worker %d: Scan: %d frames, %d", worker, len(found), at)
				}
			}
		})
	}
	all.Wait()
}

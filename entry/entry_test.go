package entry_test

import (
	"bytes"
	"encoding/binary"
	"encoding/hex"
	"math"
	"math/rand"
	"reflect"
	"slices"
	"strings"
	"sync"
	"testing"

	"notary/api"
	"notary/digest"
	"notary/entry"
)

func put(key, value string) api.Entry {
	return api.Entry{Kind: api.Put, Key: []byte(key), Value: []byte(value)}
}

func del(key string) api.Entry { return api.Entry{Kind: api.Delete, Key: []byte(key)} }

// sized answers an entry whose key and value have so many bytes.
func sized(kind byte, key, value int) api.Entry {
	return api.Entry{Kind: kind, Key: bytes.Repeat([]byte{'k'}, key), Value: bytes.Repeat([]byte{'v'}, value)}
}

func unhex(t *testing.T, text string) []byte {
	t.Helper()
	p, err := hex.DecodeString(strings.ReplaceAll(text, " ", ""))
	if err != nil {
		t.Fatal(err)
	}
	return p
}

func sameEntry(a, b api.Entry) bool {
	return a.Kind == b.Kind && bytes.Equal(a.Key, b.Key) && bytes.Equal(a.Value, b.Value)
}

func sameBatch(a, b api.Batch) bool {
	return a.First == b.First && slices.EqualFunc(a.Entries, b.Entries, sameEntry)
}

// refCheck, refEncode, .. are the document's words, written a second time without the layers below.
func refCheck(e api.Entry) api.Errno {
	if len(e.Key) > 64 || len(e.Value) > 256 {
		return api.ErrLong
	}
	if e.Kind != 1 && e.Kind != 2 {
		return api.ErrForm
	}
	if e.Kind == 2 && len(e.Value) != 0 {
		return api.ErrForm
	}
	return api.OK
}

func refEncode(e api.Entry) []byte {
	p := binary.AppendUvarint([]byte{e.Kind}, uint64(len(e.Key)))
	p = append(p, e.Key...)
	if e.Kind == 1 {
		p = binary.AppendUvarint(p, uint64(len(e.Value)))
		p = append(p, e.Value...)
	}
	return p
}

func refEncodeBatch(b api.Batch) []byte {
	p := binary.AppendUvarint(nil, b.First)
	p = binary.AppendUvarint(p, uint64(len(b.Entries)))
	for _, e := range b.Entries {
		p = append(p, refEncode(e)...)
	}
	return p
}

func refUvar(p []byte) (v uint64, rest []byte, e api.Errno) {
	v, n := binary.Uvarint(p)
	if n <= 0 || len(binary.AppendUvarint(nil, v)) != n {
		return 0, nil, api.ErrForm
	}
	return v, p[n:], api.OK
}

func refBlob(p []byte, most uint64) (text, rest []byte, e api.Errno) {
	n, rest, e := refUvar(p)
	switch {
	case e != api.OK:
		return nil, nil, e
	case n > most:
		return nil, nil, api.ErrLong
	case n > uint64(len(rest)):
		return nil, nil, api.ErrForm
	}
	return rest[:n], rest[n:], api.OK
}

func refEntry(p []byte) (got api.Entry, rest []byte, e api.Errno) {
	if len(p) == 0 || p[0] != 1 && p[0] != 2 {
		return api.Entry{}, nil, api.ErrForm
	}
	key, rest, e := refBlob(p[1:], 64)
	if e != api.OK {
		return api.Entry{}, nil, e
	}
	got = api.Entry{Kind: p[0], Key: key}
	if p[0] == 2 {
		return got, rest, api.OK
	}
	got.Value, rest, e = refBlob(rest, 256)
	if e != api.OK {
		return api.Entry{}, nil, e
	}
	return got, rest, api.OK
}

func refDecode(p []byte) (api.Entry, api.Errno) {
	got, rest, e := refEntry(p)
	if e == api.OK && len(rest) > 0 {
		return api.Entry{}, api.ErrForm
	}
	return got, e
}

func refDecodeBatch(p []byte) (api.Batch, api.Errno) {
	first, rest, e := refUvar(p)
	if e != api.OK {
		return api.Batch{}, e
	}
	count, rest, e := refUvar(rest)
	if e != api.OK {
		return api.Batch{}, e
	}
	if count > 64 {
		return api.Batch{}, api.ErrLong
	}
	if count == 0 || first+count < first {
		return api.Batch{}, api.ErrForm
	}
	b := api.Batch{First: first}
	for range count {
		var one api.Entry
		one, rest, e = refEntry(rest)
		if e != api.OK {
			return api.Batch{}, e
		}
		b.Entries = append(b.Entries, one)
	}
	if len(rest) > 0 {
		return api.Batch{}, api.ErrForm
	}
	return b, api.OK
}

// checkDecode holds Decode against the document's words, and P5.7's one form where it answers OK.
func checkDecode(t *testing.T, p []byte) {
	t.Helper()
	got, e := entry.Decode(p)
	want, f := refDecode(p)
	if e != f || !sameEntry(got, want) {
		t.Errorf("Decode(%x) = %v, %d, want %v, %d", p, got, e, want, f)
	}
	if e != api.OK {
		return
	}
	if again, e := entry.Encode(got); e != api.OK || !bytes.Equal(again, p) {
		t.Errorf("P5.7: Decode(%x) encoded is %x, %d", p, again, e)
	}
}

func checkDecodeBatch(t *testing.T, p []byte) {
	t.Helper()
	got, e := entry.DecodeBatch(p)
	want, f := refDecodeBatch(p)
	if e != f || !sameBatch(got, want) {
		t.Errorf("DecodeBatch(%x) = %v, %d, want %v, %d", p, got, e, want, f)
	}
	if e != api.OK {
		return
	}
	if again, e := entry.EncodeBatch(got); e != api.OK || !bytes.Equal(again, p) {
		t.Errorf("P5.7: DecodeBatch(%x) encoded is %x, %d", p, again, e)
	}
}

// eachText calls f with every text of at most most bytes, all of them out of letters.
func eachText(letters []byte, most int, f func(p []byte)) {
	var grow func(p []byte)
	grow = func(p []byte) {
		f(p)
		if len(p) == most {
			return
		}
		for _, b := range letters {
			grow(append(slices.Clone(p), b))
		}
	}
	grow(nil)
}

// near answers p cut short at each place, with bytes behind it, and with one byte changed at each place.
func near(p []byte) [][]byte {
	var all [][]byte
	for i := range p {
		all = append(all, p[:i])
	}
	all = append(all, append(slices.Clone(p), 0), append(slices.Clone(p), 1, 0, 0))
	for i := range p {
		for _, b := range []byte{0, 1, 2, 3, 0x40, 0x41, 0x7f, 0x80, 0x81, 0xff} {
			q := slices.Clone(p)
			q[i] = b
			all = append(all, q)
		}
	}
	return all
}

// anyEntry answers an entry that may be appended, often at the edges of its limits.
func anyEntry(r *rand.Rand) api.Entry {
	keys, values := []int{0, 1, 2, 63, 64}, []int{0, 1, 127, 128, 255, 256}
	e := sized(api.Put, keys[r.Intn(len(keys))], values[r.Intn(len(values))])
	if r.Intn(3) == 0 {
		e.Kind, e.Value = api.Delete, nil
	}
	r.Read(e.Key)
	r.Read(e.Value)
	return e
}

func anyBatch(r *rand.Rand) api.Batch {
	counts := []int{1, 2, 3, 63, 64}
	firsts := []uint64{0, 1, 127, 128, 300, 1 << 32, math.MaxUint64 - 64, r.Uint64() >> 1}
	b := api.Batch{First: firsts[r.Intn(len(firsts))]}
	for range counts[r.Intn(len(counts))] {
		b.Entries = append(b.Entries, anyEntry(r))
	}
	return b
}

// roomy answers p with spare room behind it.
func roomy(p []byte) []byte { return append(slices.Clone(p), "spare room"...)[:len(p)] }

// scrawl writes over p and its spare room.
func scrawl(p []byte) {
	for i := range p[:cap(p)] {
		p[:cap(p)][i] ^= 0xa5
	}
}

// whole answers a copy of p and of its spare room.
func whole(p []byte) []byte { return slices.Clone(p[:cap(p)]) }

func TestP5_1_Check(t *testing.T) {
	for kind := range 256 {
		for _, key := range []int{0, 1, 63, 64, 65, 66, 64 + 256, 1 << 16} {
			for _, value := range []int{0, 1, 64, 65, 255, 256, 257, 512, 1 << 16} {
				e := sized(byte(kind), key, value)
				if got, want := entry.Check(e), refCheck(e); got != want {
					t.Fatalf("Check(kind %d, key of %d, value of %d) = %d, want %d", kind, key, value, got, want)
				}
			}
		}
	}
	for _, c := range []struct {
		e    api.Entry
		want api.Errno
	}{
		{api.Entry{}, api.ErrForm},
		{api.Entry{Kind: api.Put}, api.OK},
		{api.Entry{Kind: api.Delete}, api.OK},
		{api.Entry{Kind: api.Delete, Value: []byte{}}, api.OK},
		{api.Entry{Kind: api.Delete, Value: []byte{0}}, api.ErrForm},
		{sized(api.Put, 64, 256), api.OK},
		{sized(api.Delete, 64, 0), api.OK},
		{sized(api.Delete, 64, 257), api.ErrLong},
		{sized(3, 65, 0), api.ErrLong},
		{sized(0, 0, 257), api.ErrLong},
	} {
		if got := entry.Check(c.e); got != c.want {
			t.Errorf("Check(%v) = %d, want %d", c.e, got, c.want)
		}
	}
}

func TestP5_2_Encode(t *testing.T) {
	for _, c := range []struct {
		e    api.Entry
		want string
	}{
		{put("k", "v"), "01 01 6b 01 76"},
		{put("", ""), "01 00 00"},
		{put("", "v"), "01 00 01 76"},
		{put("k", ""), "01 01 6b 00"},
		{del("k"), "02 01 6b"},
		{del(""), "02 00"},
		{api.Entry{Kind: 2, Key: nil, Value: []byte{}}, "02 00"},
		{put("", strings.Repeat("v", 128)), "01 00 80 01" + strings.Repeat("76", 128)},
		{put(strings.Repeat("k", 64), strings.Repeat("v", 256)), "01 40" + strings.Repeat("6b", 64) + "80 02" + strings.Repeat("76", 256)},
	} {
		if p, e := entry.Encode(c.e); e != api.OK || !bytes.Equal(p, unhex(t, c.want)) {
			t.Errorf("Encode(%v) = %x, %d, want %s", c.e, p, e, c.want)
		}
	}
	if p, _ := entry.Encode(sized(api.Put, 64, 256)); len(p) != 324 {
		t.Errorf("the greatest entry has %d bytes", len(p))
	}
	for _, c := range []struct {
		e    api.Entry
		want api.Errno
	}{
		{api.Entry{Kind: 2, Key: []byte("k"), Value: []byte("v")}, api.ErrForm},
		{api.Entry{}, api.ErrForm},
		{api.Entry{Kind: 3}, api.ErrForm},
		{api.Entry{Kind: 255, Key: []byte("k"), Value: []byte("v")}, api.ErrForm},
		{sized(3, 65, 0), api.ErrLong},
		{sized(1, 65, 0), api.ErrLong},
		{sized(1, 0, 257), api.ErrLong},
		{sized(2, 65, 0), api.ErrLong},
		{sized(2, 0, 257), api.ErrLong},
		{sized(1, 1<<20, 1<<20), api.ErrLong},
	} {
		if p, e := entry.Encode(c.e); e != c.want || len(p) != 0 {
			t.Errorf("Encode(kind %d, key of %d, value of %d) = %x, %d, want %d", c.e.Kind, len(c.e.Key), len(c.e.Value), p, e, c.want)
		}
	}
	r := rand.New(rand.NewSource(52))
	for range 2000 {
		one := anyEntry(r)
		if p, e := entry.Encode(one); e != api.OK || !bytes.Equal(p, refEncode(one)) {
			t.Fatalf("Encode(%v) = %x, %d", one, p, e)
		}
	}
}

func TestP5_3_Decode(t *testing.T) {
	for _, c := range []struct {
		p    string
		want api.Entry
		e    api.Errno
	}{
		{"01 01 6b 01 76", put("k", "v"), api.OK},
		{"01 00 00", put("", ""), api.OK},
		{"02 01 6b", del("k"), api.OK},
		{"02 00", del(""), api.OK},
		{"01 40" + strings.Repeat("6b", 64) + "80 02" + strings.Repeat("76", 256), put(strings.Repeat("k", 64), strings.Repeat("v", 256)), api.OK},
		{"", api.Entry{}, api.ErrForm},
		{"00", api.Entry{}, api.ErrForm},
		{"01", api.Entry{}, api.ErrForm},
		{"02", api.Entry{}, api.ErrForm},
		{"03 00", api.Entry{}, api.ErrForm},
		{"00 00 00", api.Entry{}, api.ErrForm},
		{"03 41", api.Entry{}, api.ErrForm},          // the kind stands ahead of the key
		{"ff 41", api.Entry{}, api.ErrForm},          // likewise
		{"02 01", api.Entry{}, api.ErrForm},          // the key is missing
		{"01 01 6b", api.Entry{}, api.ErrForm},       // the value is missing
		{"01 01 6b 02 76", api.Entry{}, api.ErrForm}, // and half of it
		{"02 01 6b 00", api.Entry{}, api.ErrForm},    // a byte is left
		{"01 00 00 00", api.Entry{}, api.ErrForm},
		{"01 01 6b 01 76 02 00", api.Entry{}, api.ErrForm}, // another entry is left
		{"01 41", api.Entry{}, api.ErrLong},
		{"02 41", api.Entry{}, api.ErrLong},
		{"01 41" + strings.Repeat("6b", 65) + "00", api.Entry{}, api.ErrLong},
		{"01 00 81 02", api.Entry{}, api.ErrLong},
		{"01 00 81 02" + strings.Repeat("76", 257), api.Entry{}, api.ErrLong},
		{"01 ff ff ff ff ff ff ff ff ff 01", api.Entry{}, api.ErrLong},
		{"01 00 ff ff ff ff ff ff ff ff ff 01", api.Entry{}, api.ErrLong},
		{"01 ff ff ff ff ff ff ff ff ff 02", api.Entry{}, api.ErrForm}, // no Uvar
		{"01 81 00 6b 00", api.Entry{}, api.ErrForm},                   // the length 1 in two bytes
		{"01 c1 00", api.Entry{}, api.ErrForm},                         // the length 65 in two bytes
		{"01 00 80 00", api.Entry{}, api.ErrForm},
		{"01 01 6b 41", api.Entry{}, api.ErrForm},    // a value of 65 bytes may be, but is missing
		{"01 02 6b 81 02", api.Entry{}, api.ErrForm}, // the key ends behind 81: the value has the length 2, and is missing
		{"01 05 6b 81 02", api.Entry{}, api.ErrForm}, // the key is cut short ahead of what looks like too long a value
	} {
		p := unhex(t, c.p)
		if got, e := entry.Decode(p); e != c.e || !sameEntry(got, c.want) {
			t.Errorf("Decode(%x) = %v, %d, want %v, %d", p, got, e, c.want, c.e)
		}
		checkDecode(t, p)
	}
	eachText([]byte{0, 1, 2, 3, 0x40, 0x41, 0x80, 0x81, 0xff}, 6, func(p []byte) { checkDecode(t, p) })
	for kind := range 256 {
		checkDecode(t, []byte{byte(kind)})
		checkDecode(t, []byte{byte(kind), 0})
		checkDecode(t, []byte{byte(kind), 0, 0})
	}
}

func TestP5_3_DecodeNear(t *testing.T) {
	r := rand.New(rand.NewSource(53))
	for range 40 {
		p, _ := entry.Encode(anyEntry(r))
		for _, q := range near(p) {
			checkDecode(t, q)
		}
	}
	for range 20000 {
		p := make([]byte, r.Intn(12))
		r.Read(p)
		if len(p) > 0 {
			p[0] %= 4
		}
		checkDecode(t, p)
	}
}

func many(n int, e api.Entry) []api.Entry { return slices.Repeat([]api.Entry{e}, n) }

func TestP5_4_EncodeBatch(t *testing.T) {
	for _, c := range []struct {
		b    api.Batch
		want string
	}{
		{api.Batch{Entries: []api.Entry{put("k", "v"), del("k")}}, "00 02 01 01 6b 01 76 02 01 6b"},
		{api.Batch{First: 300, Entries: []api.Entry{del("")}}, "ac 02 01 02 00"},
		{api.Batch{First: math.MaxUint64 - 1, Entries: []api.Entry{del("")}}, "fe ff ff ff ff ff ff ff ff 01 01 02 00"},
		{api.Batch{First: math.MaxUint64 - 2, Entries: many(2, del(""))}, "fd ff ff ff ff ff ff ff ff 01 02 02 00 02 00"},
		{api.Batch{First: 7, Entries: many(64, del(""))}, "07 40" + strings.Repeat("0200", 64)},
	} {
		if p, e := entry.EncodeBatch(c.b); e != api.OK || !bytes.Equal(p, unhex(t, c.want)) {
			t.Errorf("EncodeBatch(%v) = %x, %d, want %s", c.b, p, e, c.want)
		}
	}
	if p, e := entry.EncodeBatch(api.Batch{First: math.MaxUint64 - 64, Entries: many(64, sized(1, 64, 256))}); e != api.OK || len(p) != 20747 {
		t.Errorf("the greatest batch has %d bytes, %d", len(p), e)
	}
	ok, long, bad := del("k"), sized(1, 65, 0), api.Entry{Kind: 9}
	for i, c := range []struct {
		b    api.Batch
		want api.Errno
	}{
		{api.Batch{}, api.ErrForm},
		{api.Batch{First: math.MaxUint64, Entries: []api.Entry{}}, api.ErrForm},
		{api.Batch{First: math.MaxUint64, Entries: many(1, ok)}, api.ErrForm},
		{api.Batch{First: math.MaxUint64 - 1, Entries: many(2, ok)}, api.ErrForm},
		{api.Batch{First: math.MaxUint64 - 63, Entries: many(64, ok)}, api.ErrForm},
		{api.Batch{First: math.MaxUint64, Entries: many(64, ok)}, api.ErrForm},
		{api.Batch{Entries: many(65, ok)}, api.ErrLong},
		{api.Batch{Entries: many(1000, ok)}, api.ErrLong},
		{api.Batch{Entries: many(64+256, ok)}, api.ErrLong},
		{api.Batch{First: math.MaxUint64, Entries: many(65, ok)}, api.ErrLong},
		{api.Batch{Entries: many(65, bad)}, api.ErrLong},
		{api.Batch{Entries: []api.Entry{bad}}, api.ErrForm},
		{api.Batch{Entries: []api.Entry{ok, bad, ok}}, api.ErrForm},
		{api.Batch{Entries: []api.Entry{ok, ok, bad}}, api.ErrForm},
		{api.Batch{Entries: []api.Entry{long}}, api.ErrLong},
		{api.Batch{Entries: []api.Entry{ok, long, ok}}, api.ErrLong},
		{api.Batch{Entries: []api.Entry{bad, long}}, api.ErrLong},
		{api.Batch{Entries: []api.Entry{long, bad}}, api.ErrLong},
		{api.Batch{Entries: []api.Entry{bad, ok, long, ok, bad}}, api.ErrLong},
		{api.Batch{First: math.MaxUint64, Entries: []api.Entry{long}}, api.ErrLong},
		{api.Batch{First: math.MaxUint64, Entries: []api.Entry{bad}}, api.ErrForm},
		{api.Batch{Entries: []api.Entry{{Kind: 2, Value: []byte("v")}}}, api.ErrForm},
	} {
		if p, e := entry.EncodeBatch(c.b); e != c.want || len(p) != 0 {
			t.Errorf("the batch %d: EncodeBatch = %x, %d, want %d", i, p, e, c.want)
		}
	}
	r := rand.New(rand.NewSource(54))
	for range 200 {
		b := anyBatch(r)
		if p, e := entry.EncodeBatch(b); e != api.OK || !bytes.Equal(p, refEncodeBatch(b)) {
			t.Fatalf("EncodeBatch(%v) = %x, %d", b, p, e)
		}
	}
}

func TestP5_5_DecodeBatch(t *testing.T) {
	for _, c := range []struct {
		p    string
		want api.Batch
		e    api.Errno
	}{
		{"00 02 02 00 02 00", api.Batch{Entries: []api.Entry{del(""), del("")}}, api.OK},
		{"00 02 01 01 6b 01 76 02 01 6b", api.Batch{Entries: []api.Entry{put("k", "v"), del("k")}}, api.OK},
		{"ac 02 01 02 00", api.Batch{First: 300, Entries: []api.Entry{del("")}}, api.OK},
		{"fe ff ff ff ff ff ff ff ff 01 01 02 00", api.Batch{First: math.MaxUint64 - 1, Entries: []api.Entry{del("")}}, api.OK},
		{"00 40" + strings.Repeat("0200", 64), api.Batch{Entries: many(64, del(""))}, api.OK},
		{"", api.Batch{}, api.ErrForm},
		{"00", api.Batch{}, api.ErrForm},
		{"80 00 01 02 00", api.Batch{}, api.ErrForm}, // First in two bytes
		{"80 00 41", api.Batch{}, api.ErrForm},       // First stands ahead of the count
		{"00 81 00 02 00", api.Batch{}, api.ErrForm}, // the count in two bytes
		{"00 c1 00", api.Batch{}, api.ErrForm},
		{"00 00", api.Batch{}, api.ErrForm},
		{"00 41", api.Batch{}, api.ErrLong},
		{"00 41" + strings.Repeat("0200", 65), api.Batch{}, api.ErrLong},
		{"00 ff ff ff ff ff ff ff ff ff 01", api.Batch{}, api.ErrLong},
		{"ff ff ff ff ff ff ff ff ff 01 41", api.Batch{}, api.ErrLong},
		{"ff ff ff ff ff ff ff ff ff 01 00", api.Batch{}, api.ErrForm},
		{"ff ff ff ff ff ff ff ff ff 01 01 02 00", api.Batch{}, api.ErrForm},
		{"fe ff ff ff ff ff ff ff ff 01 02 02 00 02 00", api.Batch{}, api.ErrForm},
		{"ff ff ff ff ff ff ff ff ff 01 01 02 41", api.Batch{}, api.ErrForm}, // First and the count stand ahead of the key
		{"00 01", api.Batch{}, api.ErrForm},                                  // the entry is missing
		{"00 02 02 00", api.Batch{}, api.ErrForm},                            // the second one is
		{"00 01 02 00 00", api.Batch{}, api.ErrForm},
		{"00 01 02 00 02 00", api.Batch{}, api.ErrForm}, // one more than the count says
		{"00 01 03 41", api.Batch{}, api.ErrForm},
		{"00 01 02 41", api.Batch{}, api.ErrLong},
		{"00 02 03 00 02 41", api.Batch{}, api.ErrForm}, // the first entry decides
		{"00 02 02 41 03 00", api.Batch{}, api.ErrLong},
		{"00 02 02 00 01 00 81 02", api.Batch{}, api.ErrLong},
	} {
		p := unhex(t, c.p)
		if got, e := entry.DecodeBatch(p); e != c.e || !sameBatch(got, c.want) {
			t.Errorf("DecodeBatch(%x) = %v, %d, want %v, %d", p, got, e, c.want, c.e)
		}
		checkDecodeBatch(t, p)
	}
	eachText([]byte{0, 1, 2, 3, 0x40, 0x41, 0x80, 0x81, 0xff}, 6, func(p []byte) { checkDecodeBatch(t, p) })
	for count := range 256 {
		checkDecodeBatch(t, append([]byte{0, byte(count)}, bytes.Repeat([]byte{2, 0}, count)...))
	}
}

func TestP5_5_DecodeBatchNear(t *testing.T) {
	r := rand.New(rand.NewSource(55))
	for range 20 {
		b := anyBatch(r)
		b.Entries = b.Entries[:min(3, len(b.Entries))]
		p, _ := entry.EncodeBatch(b)
		for _, q := range near(p) {
			checkDecodeBatch(t, q)
		}
	}
	for range 20000 {
		p := make([]byte, r.Intn(14))
		for i := range p {
			p[i] = []byte{0, 1, 2, 3, byte(r.Intn(256))}[r.Intn(5)]
		}
		checkDecodeBatch(t, p)
	}
}

// filled answers a digest of the width w none of whose w bytes is 0.
func filled(w, seed int) api.Digest {
	var d api.Digest
	for i := range w {
		d[i] = byte(1 + (seed+i)%255)
	}
	return d
}

func noWidths() []int {
	return []int{0, -1, 33, 34, 64, 256 + 4, 1<<32 + 4, math.MaxInt, math.MinInt}
}

func TestP5_6_Roots(t *testing.T) {
	p, e := entry.EncodeRoot(1, api.Root{Size: 5, Log: api.Digest{0xaa}, Map: api.Digest{0xbb}})
	if e != api.OK || !bytes.Equal(p, []byte{0, 0, 0, 0, 0, 0, 0, 5, 0xaa, 0xbb}) {
		t.Errorf("EncodeRoot = %x, %d", p, e)
	}
	for w := 1; w <= 32; w++ {
		for _, size := range []uint64{0, 1, 0x0102030405060708, math.MaxUint64} {
			for _, r := range []api.Root{{Size: size}, {Size: size, Log: filled(w, 1)}, {Size: size, Map: filled(w, 2)}, {Size: size, Log: filled(w, 3), Map: filled(w, 4)}} {
				want := slices.Concat(binary.BigEndian.AppendUint64(nil, size), r.Log[:w], r.Map[:w])
				p, e := entry.EncodeRoot(w, r)
				if e != api.OK || !bytes.Equal(p, want) {
					t.Errorf("EncodeRoot(%d, %v) = %x, %d", w, r, p, e)
				}
				if got, e := entry.DecodeRoot(w, want); e != api.OK || got != r {
					t.Errorf("DecodeRoot(%d, %x) = %v, %d", w, want, got, e)
				}
			}
		}
		for n := range 100 {
			p := bytes.Repeat([]byte{0xff}, n)
			want := api.ErrForm
			if n == 8+2*w {
				want = api.OK
			}
			r, e := entry.DecodeRoot(w, p)
			if e != want || e != api.OK && r != (api.Root{}) {
				t.Errorf("DecodeRoot(%d, %d bytes) = %v, %d", w, n, r, e)
			}
			if e == api.OK && (!digest.Form(w, r.Log) || !digest.Form(w, r.Map)) {
				t.Errorf("DecodeRoot(%d, ..) = %v: not of the width", w, r)
			}
		}
	}
}

func TestP5_6_RootsRefused(t *testing.T) {
	for w := 1; w < 32; w++ {
		for at := w; at < 32; at++ {
			var wide api.Digest
			wide[at] = 1
			for _, r := range []api.Root{{Log: wide}, {Map: wide}, {Size: 7, Log: wide, Map: wide}, {Log: filled(w, 1), Map: wide}, {Log: wide, Map: filled(w, 1)}} {
				if p, e := entry.EncodeRoot(w, r); e != api.ErrForm || len(p) != 0 {
					t.Errorf("EncodeRoot(%d, %v) = %x, %d", w, r, p, e)
				}
			}
		}
	}
	for _, w := range noWidths() {
		for _, r := range []api.Root{{}, {Size: 1, Log: filled(32, 1)}} {
			if p, e := entry.EncodeRoot(w, r); e != api.ErrArg || len(p) != 0 {
				t.Errorf("EncodeRoot(%d, ..) = %x, %d", w, p, e)
			}
		}
		for _, n := range []int{0, 8, 10, 8 + 2*33, 8 + 2*32} {
			if r, e := entry.DecodeRoot(w, bytes.Repeat([]byte{9}, n)); e != api.ErrArg || r != (api.Root{}) {
				t.Errorf("DecodeRoot(%d, %d bytes) = %v, %d", w, n, r, e)
			}
		}
	}
	if r, e := entry.DecodeRoot(4, nil); e != api.ErrForm || r != (api.Root{}) {
		t.Errorf("DecodeRoot(4, nil) = %v, %d", r, e)
	}
}

func TestP5_7_ThereAndBack(t *testing.T) {
	r := rand.New(rand.NewSource(57))
	for range 2000 {
		one := anyEntry(r)
		p, e := entry.Encode(one)
		got, f := entry.Decode(p)
		if e != api.OK || f != api.OK || !sameEntry(got, one) {
			t.Fatalf("Decode(Encode(%v)) = %v, %d, %d", one, got, e, f)
		}
		checkDecode(t, p)
	}
	for range 200 {
		b := anyBatch(r)
		p, e := entry.EncodeBatch(b)
		got, f := entry.DecodeBatch(p)
		if e != api.OK || f != api.OK || !sameBatch(got, b) {
			t.Fatalf("DecodeBatch(EncodeBatch(%v)) = %v, %d, %d", b, got, e, f)
		}
		checkDecodeBatch(t, p)
	}
	for range 2000 {
		w := 1 + r.Intn(32)
		p := make([]byte, 8+2*w)
		r.Read(p)
		root, e := entry.DecodeRoot(w, p)
		again, f := entry.EncodeRoot(w, root)
		if e != api.OK || f != api.OK || !bytes.Equal(again, p) {
			t.Fatalf("EncodeRoot(DecodeRoot(%x)) = %x, %d, %d", p, again, e, f)
		}
	}
}

// Unlike batches and entries never have one text, for each text has one reading.
func TestP5_7_UnlikeTexts(t *testing.T) {
	texts := map[string]api.Entry{}
	for _, key := range []string{"", "a", "\x00", "ab", "\x01a"} {
		for _, value := range []string{"", "a", "\x00", "b", "\x01b"} {
			for _, one := range []api.Entry{put(key, value), del(key)} {
				p, _ := entry.Encode(one)
				if other, met := texts[string(p)]; met && !sameEntry(one, other) {
					t.Errorf("%v and %v are both %x", one, other, p)
				}
				texts[string(p)] = one
			}
		}
	}
}

func TestMemory_Encode(t *testing.T) {
	key, value := roomy([]byte("key")), roomy([]byte("value"))
	keyWas, valueWas := whole(key), whole(value)
	one := api.Entry{Kind: api.Put, Key: key, Value: value}
	room := append([]api.Entry{one, one}, api.Entry{Kind: 77})
	b := api.Batch{First: 3, Entries: room[:2]}
	wantOne, wantBatch := refEncode(one), refEncodeBatch(b)
	for range 2 {
		entry.Check(one)
		p, _ := entry.Encode(one)
		q, _ := entry.EncodeBatch(b)
		if !bytes.Equal(p, wantOne) || !bytes.Equal(q, wantBatch) {
			t.Fatalf("Encode = %x, EncodeBatch = %x", p, q)
		}
		scrawl(p)
		scrawl(q)
		if !bytes.Equal(whole(key), keyWas) || !bytes.Equal(whole(value), valueWas) || room[2].Kind != 77 {
			t.Fatal("what was handed in has changed")
		}
	}
	p, _ := entry.Encode(one)
	q, _ := entry.EncodeBatch(b)
	scrawl(key)
	scrawl(value)
	if !bytes.Equal(p, wantOne) || !bytes.Equal(q, wantBatch) {
		t.Error("an answer changes with what was handed in")
	}
}

func TestMemory_Decode(t *testing.T) {
	b := api.Batch{First: 300, Entries: []api.Entry{put("one", "first"), del("two"), put("", ""), put("three", "third")}}
	p := roomy(refEncodeBatch(b))
	one := roomy(refEncode(b.Entries[0]))
	pWas, oneWas := whole(p), whole(one)
	got, _ := entry.DecodeBatch(p)
	again, _ := entry.DecodeBatch(p)
	single, _ := entry.Decode(one)
	if !bytes.Equal(whole(p), pWas) || !bytes.Equal(whole(one), oneWas) {
		t.Fatal("what was handed in has changed")
	}
	scrawl(p)
	scrawl(one)
	if !sameBatch(got, b) || !sameBatch(again, b) || !sameEntry(single, b.Entries[0]) {
		t.Fatal("an answer changes with what was handed in")
	}
	scrawl(single.Key)
	if !bytes.Equal(single.Value, []byte("first")) {
		t.Error("the key and the value of an entry share memory")
	}
	for i := range got.Entries {
		for _, part := range []*[]byte{&got.Entries[i].Key, &got.Entries[i].Value} {
			was := slices.Clone(*part)
			scrawl(*part)
			*part = was
			if !sameBatch(got, b) || !sameBatch(again, b) {
				t.Fatalf("the entry %d shares memory with another list", i)
			}
		}
	}
	spare := got.Entries[:cap(got.Entries)]
	for i := range spare {
		spare[i] = api.Entry{Kind: 99}
	}
	if !sameBatch(again, b) {
		t.Error("two answers share their lists of entries")
	}
}

func TestMemory_Roots(t *testing.T) {
	r := api.Root{Size: 9, Log: filled(3, 1), Map: filled(3, 5)}
	p, _ := entry.EncodeRoot(3, r)
	q, _ := entry.EncodeRoot(3, r)
	scrawl(p)
	if got, e := entry.DecodeRoot(3, q); e != api.OK || got != r {
		t.Errorf("two answers share memory: %v, %d", got, e)
	}
	room := roomy(q)
	was := whole(room)
	got, _ := entry.DecodeRoot(3, room)
	if !bytes.Equal(whole(room), was) {
		t.Error("what was handed in has changed")
	}
	scrawl(room)
	if got != r {
		t.Error("an answer changes with what was handed in")
	}
}

func TestP1_Nothing(t *testing.T) {
	if e := entry.Check(api.Entry{}); e != api.ErrForm {
		t.Errorf("Check of nothing: %d", e)
	}
	for _, c := range []struct {
		name string
		got  any
		e    api.Errno
	}{
		first("Decode", func() (api.Entry, api.Errno) { return entry.Decode(nil) }),
		first("DecodeBatch", func() (api.Batch, api.Errno) { return entry.DecodeBatch(nil) }),
		first("DecodeBatch, cut short", func() (api.Batch, api.Errno) { return entry.DecodeBatch([]byte{9, 2, 2, 1, 'k'}) }),
		first("Decode, cut short", func() (api.Entry, api.Errno) { return entry.Decode([]byte{1, 1, 'k', 2, 'v'}) }),
		first("Decode, a byte left", func() (api.Entry, api.Errno) { return entry.Decode([]byte{1, 1, 'k', 1, 'v', 0}) }),
		first("DecodeBatch, a byte left", func() (api.Batch, api.Errno) { return entry.DecodeBatch([]byte{9, 1, 2, 1, 'k', 0}) }),
	} {
		if c.e != api.ErrForm || !reflect.ValueOf(c.got).IsZero() {
			t.Errorf("%s: %v, %d", c.name, c.got, c.e)
		}
	}
}

func first[T any](name string, call func() (T, api.Errno)) struct {
	name string
	got  any
	e    api.Errno
} {
	got, e := call()
	return struct {
		name string
		got  any
		e    api.Errno
	}{name, got, e}
}

func TestP2_ManyAtATime(t *testing.T) {
	r := rand.New(rand.NewSource(2))
	var batches []api.Batch
	for range 30 {
		batches = append(batches, anyBatch(r))
	}
	var all sync.WaitGroup
	for worker := range 8 {
		all.Go(func() {
			for i := range batches {
				b := batches[(i+worker)%len(batches)]
				p, e := entry.EncodeBatch(b)
				got, f := entry.DecodeBatch(p)
				if e != api.OK || f != api.OK || !sameBatch(got, b) {
					t.Errorf("worker %d: %d, %d", worker, e, f)
				}
				if _, e := entry.DecodeBatch(p[:len(p)-1]); e != api.ErrForm {
					t.Errorf("worker %d: cut short: %d", worker, e)
				}
			}
		})
	}
	all.Wait()
}

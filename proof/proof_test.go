package proof_test

import (
	"bytes"
	"crypto/sha256"
	"encoding/binary"
	"encoding/hex"
	"math"
	"math/rand"
	"reflect"
	"runtime"
	"slices"
	"strconv"
	"strings"
	"sync"
	"testing"

	"notary/api"
	"notary/digest"
	"notary/entry"
	"notary/hamt"
	"notary/hcheck"
	"notary/hproof"
	"notary/mcheck"
	"notary/mproof"
	"notary/mtree"
	"notary/proof"
)

// cutSum is the digest of a text, made by another SHA-256.
func cutSum(w int, p []byte) api.Digest {
	whole := sha256.Sum256(p)
	var d api.Digest
	copy(d[:w], whole[:])
	return d
}

func wordsRootBytes(w int, root api.Root) []byte {
	p := binary.BigEndian.AppendUint64(nil, root.Size)
	return slices.Concat(p, root.Log[:w], root.Map[:w])
}

func wordsBlob(p []byte) []byte { return append(binary.AppendUvarint(nil, uint64(len(p))), p...) }

func wordsDigests(w int, digests []api.Digest) []byte {
	p := binary.AppendUvarint(nil, uint64(len(digests)))
	for _, d := range digests {
		p = append(p, d[:w]...)
	}
	return p
}

func wordsEntry(e api.Entry) []byte {
	p := append([]byte{e.Kind}, wordsBlob(e.Key)...)
	if e.Kind == 1 {
		p = append(p, wordsBlob(e.Value)...)
	}
	return p
}

// wordsBytes is P17.1, of a receipt of one of the three kinds.
func wordsBytes(w int, r proof.Receipt) []byte {
	p := append([]byte{r.Kind}, wordsRootBytes(w, r.Root)...)
	switch r.Kind {
	case 1:
		p = binary.AppendUvarint(p, r.Index)
		return slices.Concat(p, wordsBlob(wordsEntry(r.Entry)), wordsDigests(w, r.Digests))
	case 3:
		return slices.Concat(p, wordsRootBytes(w, r.Old), wordsDigests(w, r.Digests))
	}
	p = append(p, wordsBlob(r.Key)...)
	p = binary.AppendUvarint(p, uint64(len(r.Path.Steps)))
	for _, step := range r.Path.Steps {
		p = append(p, byte(step.Bitmap>>8), byte(step.Bitmap))
		p = append(p, wordsDigests(w, step.Kids)...)
	}
	p = binary.AppendUvarint(p, uint64(len(r.Path.Pairs)))
	for _, pair := range r.Path.Pairs {
		p = slices.Concat(p, wordsBlob(pair.Key), wordsBlob(pair.Value))
	}
	return p
}

// reader reads from the front, up to the first thing that can't be so.
type reader struct {
	p []byte
	e api.Errno
}

func (r *reader) fail(e api.Errno) {
	if r.e == api.OK {
		r.e = e
	}
}

func (r *reader) take(n int) []byte {
	if r.e != api.OK || n > len(r.p) {
		r.fail(api.ErrForm)
		return make([]byte, n)
	}
	p := r.p[:n]
	r.p = r.p[n:]
	return p
}

func (r *reader) uvar(most uint64, beyond api.Errno) uint64 {
	v, n := binary.Uvarint(r.p)
	if r.e != api.OK || n <= 0 || n != len(binary.AppendUvarint(nil, v)) {
		r.fail(api.ErrForm)
		return 0
	}
	if v > most {
		r.fail(beyond)
		return 0
	}
	r.p = r.p[n:]
	return v
}

func (r *reader) blob(most uint64) []byte { return r.take(int(r.uvar(most, api.ErrLong))) }

func (r *reader) digest(w int) api.Digest {
	var d api.Digest
	copy(d[:], r.take(w))
	return d
}

func (r *reader) root(w int) api.Root {
	size := binary.BigEndian.Uint64(r.take(8))
	log := r.digest(w)
	return api.Root{Size: size, Log: log, Map: r.digest(w)}
}

func (r *reader) digests(w int, most uint64, beyond api.Errno) []api.Digest {
	var digests []api.Digest
	for n := r.uvar(most, beyond); n > 0 && r.e == api.OK; n-- {
		digests = append(digests, r.digest(w))
	}
	return digests
}

func (r *reader) path(w int) api.KeyProof {
	var path api.KeyProof
	for n := r.uvar(uint64(2*w), api.ErrForm); n > 0 && r.e == api.OK; n-- {
		bitmap := binary.BigEndian.Uint16(r.take(2))
		path.Steps = append(path.Steps, api.Step{Bitmap: bitmap, Kids: r.digests(w, 16, api.ErrForm)})
	}
	for n := r.uvar(math.MaxUint64, api.ErrForm); n > 0 && r.e == api.OK; n-- {
		key := r.blob(64)
		path.Pairs = append(path.Pairs, api.Pair{Key: key, Value: r.blob(256)})
	}
	return path
}

// wordsDecode is P17.3.
func wordsDecode(w int, p []byte) (proof.Receipt, api.Errno) {
	if w < 1 || w > 32 {
		return proof.Receipt{}, api.ErrArg
	}
	in := &reader{p: p}
	r := proof.Receipt{Kind: in.take(1)[0]}
	if r.Kind < 1 || r.Kind > 3 {
		in.fail(api.ErrForm)
	}
	r.Root = in.root(w)
	switch r.Kind {
	case 1:
		r.Index = in.uvar(math.MaxUint64, api.ErrForm)
		held := in.blob(324)
		if in.e == api.OK {
			r.Entry, in.e = entry.Decode(held)
		}
		r.Digests = in.digests(w, 128, api.ErrLong)
	case 2:
		r.Key = in.blob(64)
		r.Path = in.path(w)
	case 3:
		r.Old = in.root(w)
		r.Digests = in.digests(w, 128, api.ErrLong)
	}
	if len(in.p) > 0 {
		in.fail(api.ErrForm)
	}
	if in.e != api.OK {
		return proof.Receipt{}, in.e
	}
	return r, api.OK
}

// wordsClaimed is P17.5, of a receipt that Decode takes; its sealed root is made by another SHA-256.
func wordsClaimed(w int, r proof.Receipt) (api.Claim, api.Errno) {
	seal := func(root api.Root) api.Digest { return cutSum(w, append([]byte{6}, wordsRootBytes(w, root)...)) }
	c := api.Claim{Kind: r.Kind, Root: seal(r.Root)}
	holds := false
	switch r.Kind {
	case 1:
		c.Index, c.Entry = r.Index, r.Entry
		leaf := cutSum(w, append([]byte{0}, wordsEntry(r.Entry)...))
		holds = mcheck.Inclusion(w, leaf, r.Index, r.Root.Size, r.Digests, r.Root.Log) == api.OK
	case 2:
		var e api.Errno
		c.Key = r.Key
		c.Value, c.Present, e = hcheck.Check(w, r.Root.Map, r.Key, r.Path)
		holds = e == api.OK
	case 3:
		c.Old = seal(r.Old)
		holds = r.Old.Size <= r.Root.Size && mcheck.Consistency(w, r.Old.Size, r.Root.Size, r.Old.Log, r.Root.Log, r.Digests) == api.OK
		if r.Old.Size == r.Root.Size {
			holds = holds && r.Old.Map == r.Root.Map
		}
		if r.Old.Size == 0 {
			holds = holds && r.Old.Map == cutSum(w, []byte{5})
		}
	}
	if !holds {
		return api.Claim{}, api.ErrProof
	}
	return c, api.OK
}

// plain makes empty lists nil, however deep they stand: the two are the same.
func plain(v reflect.Value) {
	switch v.Kind() {
	case reflect.Struct:
		for i := range v.NumField() {
			plain(v.Field(i))
		}
	case reflect.Slice:
		if v.Len() == 0 {
			v.SetZero()
		}
		for i := range v.Len() {
			plain(v.Index(i))
		}
	}
}

func same[T any](a, b T) bool {
	a, b = clone(a), clone(b)
	plain(reflect.ValueOf(&a).Elem())
	plain(reflect.ValueOf(&b).Elem())
	return reflect.DeepEqual(a, b)
}

// clone answers a copy of a receipt or of a claim, which shares no memory with it.
func clone[T any](v T) T {
	switch x := any(v).(type) {
	case proof.Receipt:
		x.Entry.Key, x.Entry.Value, x.Key = bytes.Clone(x.Entry.Key), bytes.Clone(x.Entry.Value), bytes.Clone(x.Key)
		x.Digests, x.Path.Steps, x.Path.Pairs = slices.Clone(x.Digests), slices.Clone(x.Path.Steps), slices.Clone(x.Path.Pairs)
		for i := range x.Path.Steps {
			x.Path.Steps[i].Kids = slices.Clone(x.Path.Steps[i].Kids)
		}
		for i, pair := range x.Path.Pairs {
			x.Path.Pairs[i] = api.Pair{Key: bytes.Clone(pair.Key), Value: bytes.Clone(pair.Value)}
		}
		return any(x).(T)
	case api.Claim:
		x.Entry.Key, x.Entry.Value, x.Key, x.Value = bytes.Clone(x.Entry.Key), bytes.Clone(x.Entry.Value), bytes.Clone(x.Key), bytes.Clone(x.Value)
		return any(x).(T)
	}
	return v
}

// holds fails unless Decode, Encode of its answer, Claimed and Verify answer of the bytes what the words say. It answers what Claimed answers.
func holds(t *testing.T, w int, p []byte) (api.Claim, api.Errno) {
	t.Helper()
	want, e := wordsDecode(w, p)
	r, f := proof.Decode(w, p)
	if f != e || !same(r, want) {
		t.Fatalf("width %d: Decode(%x) = %v, %d, want %v, %d", w, p, r, f, want, e)
	}
	shown := api.Claim{}
	if e == api.OK {
		if q, f := proof.Encode(w, r); f != api.OK || !bytes.Equal(q, p) {
			t.Fatalf("width %d: Encode of what Decode(%x) answers = %x, %d", w, p, q, f)
		}
		shown, e = wordsClaimed(w, want)
	}
	c, f := proof.Claimed(w, p)
	if f != e || !same(c, shown) {
		t.Fatalf("width %d: Claimed(%x) = %v, %d, want %v, %d", w, p, c, f, shown, e)
	}
	if f := proof.Verify(w, shown, p); f != e {
		t.Fatalf("width %d: Verify(%v, %x) = %d, want %d", w, shown, p, f, e)
	}
	return c, f
}

func anyBytes(r *rand.Rand, n int) []byte {
	p := make([]byte, n)
	r.Read(p)
	return p
}

func anyDigest(r *rand.Rand, w int) api.Digest {
	var d api.Digest
	r.Read(d[:w])
	return d
}

func anyDigests(r *rand.Rand, w, n int) []api.Digest {
	var list []api.Digest
	for range n {
		list = append(list, anyDigest(r, w))
	}
	return list
}

func anyRoot(r *rand.Rand, w int) api.Root {
	return api.Root{Size: r.Uint64() >> r.Intn(64), Log: anyDigest(r, w), Map: anyDigest(r, w)}
}

func anyEntry(r *rand.Rand) api.Entry {
	e := api.Entry{Kind: byte(1 + r.Intn(2)), Key: anyBytes(r, lengths(r, 64))}
	if e.Kind == api.Put {
		e.Value = anyBytes(r, lengths(r, 256))
	}
	return e
}

// lengths answers 0, most, or something between, mostly small.
func lengths(r *rand.Rand, most int) int {
	switch r.Intn(6) {
	case 0:
		return 0
	case 1:
		return most
	case 2:
		return r.Intn(most + 1)
	}
	return min(most, 1+r.Intn(4))
}

// anyReceipt answers a receipt of the kind that has a form, and mostly shows nothing.
func anyReceipt(r *rand.Rand, w int, kind byte) proof.Receipt {
	c := proof.Receipt{Kind: kind, Root: anyRoot(r, w)}
	switch kind {
	case api.ClaimEntry:
		c.Index, c.Entry, c.Digests = r.Uint64()>>r.Intn(64), anyEntry(r), anyDigests(r, w, lengths(r, 128))
	case api.ClaimSince:
		c.Old, c.Digests = anyRoot(r, w), anyDigests(r, w, lengths(r, 128))
	case api.ClaimKey:
		c.Key = anyBytes(r, lengths(r, 64))
		for range lengths(r, 2*w) {
			c.Path.Steps = append(c.Path.Steps, api.Step{Bitmap: uint16(r.Int()), Kids: anyDigests(r, w, lengths(r, 16))})
		}
		for range lengths(r, 20) {
			c.Path.Pairs = append(c.Path.Pairs, api.Pair{Key: anyBytes(r, lengths(r, 64)), Value: anyBytes(r, lengths(r, 256))})
		}
	}
	return c
}

func kinds() []byte { return []byte{api.ClaimEntry, api.ClaimKey, api.ClaimSince} }

// The bytes are those of the words, at each width, and there and back it is one receipt.
func TestP17_1_TheBytes(t *testing.T) {
	r := rand.New(rand.NewSource(171))
	for w := 1; w <= api.MaxWidth; w++ {
		for _, kind := range kinds() {
			for range 40 {
				c := anyReceipt(r, w, kind)
				p, e := proof.Encode(w, c)
				if e != api.OK || !bytes.Equal(p, wordsBytes(w, c)) {
					t.Fatalf("width %d: Encode(%v) = %x, %d, want %x", w, c, p, e, wordsBytes(w, c))
				}
				if back, e := proof.Decode(w, p); e != api.OK || !same(back, c) {
					t.Fatalf("width %d: Decode(Encode(%v)) = %v, %d", w, c, back, e)
				}
				holds(t, w, p)
			}
		}
	}
}

// What a kind does not name is not looked at, and is zero in what comes back.
func TestP17_2_OtherFields(t *testing.T) {
	r := rand.New(rand.NewSource(172))
	long, wide := bytes.Repeat([]byte{7}, 400), api.Digest{31: 1}
	full := proof.Receipt{
		Root: api.Root{}, Old: api.Root{Size: 9, Log: wide, Map: wide}, Index: 5, Entry: api.Entry{Kind: 9, Key: long, Value: long}, Key: long, Digests: slices.Repeat([]api.Digest{wide}, 300),
		Path: api.KeyProof{Steps: slices.Repeat([]api.Step{{Kids: slices.Repeat([]api.Digest{wide}, 20)}}, 99), Pairs: []api.Pair{{Key: long, Value: long}}},
	}
	for range 200 {
		w := 1 + r.Intn(31)
		for _, kind := range kinds() {
			c := anyReceipt(r, w, kind)
			d := full
			d.Kind, d.Root = kind, c.Root
			switch kind {
			case api.ClaimEntry:
				d.Index, d.Entry, d.Digests = c.Index, c.Entry, c.Digests
			case api.ClaimKey:
				d.Key, d.Path = c.Key, c.Path
			case api.ClaimSince:
				d.Old, d.Digests = c.Old, c.Digests
			}
			p, e := proof.Encode(w, d)
			if e != api.OK || !bytes.Equal(p, wordsBytes(w, c)) {
				t.Fatalf("kind %d: Encode = %x, %d", kind, p, e)
			}
			if back, e := proof.Decode(w, p); e != api.OK || !same(back, c) {
				t.Fatalf("kind %d: Decode = %v, %d, want %v", kind, back, e, c)
			}
		}
	}
	for kind := range 256 {
		c := proof.Receipt{Kind: byte(kind), Entry: api.Entry{Kind: api.Delete}}
		want := api.ErrForm
		if kind >= 1 && kind <= 3 {
			want = api.OK
		}
		if _, e := proof.Encode(4, c); e != want {
			t.Errorf("Encode of the kind %d: %d", kind, e)
		}
		if want == api.ErrForm { // of such a kind no other field is looked at, so none can be too long
			c = full
			c.Kind = byte(kind)
			if _, e := proof.Encode(4, c); e != want {
				t.Errorf("Encode of the kind %d and long fields: %d", kind, e)
			}
		}
		if _, e := proof.Decode(4, append([]byte{byte(kind)}, make([]byte, 200)...)); e != api.ErrForm {
			t.Errorf("Decode of the kind %d and noughts: %d", kind, e)
		}
	}
}

// spoiler makes a receipt wrong in one way, which has the error.
type spoiler struct {
	kind byte
	e    api.Errno
	how  func(w int, r *proof.Receipt)
}

func wideDigest(w int) api.Digest {
	var d api.Digest
	d[w] = 1
	return d
}

// spoilers answers all ways in which Encode can be wrong, at widths below 32.
func spoilers() []spoiler {
	type r = proof.Receipt
	list := []spoiler{
		{1, api.ErrLong, func(w int, c *r) { c.Digests = append(c.Digests, make([]api.Digest, 129)...)[:129] }},
		{1, api.ErrLong, func(w int, c *r) { c.Entry.Key = make([]byte, 65) }},
		{1, api.ErrLong, func(w int, c *r) { c.Entry.Value = make([]byte, 257) }},
		{1, api.ErrForm, func(w int, c *r) { c.Entry.Kind = 3 }},
		{1, api.ErrForm, func(w int, c *r) { c.Entry.Kind = 0 }},
		{1, api.ErrForm, func(w int, c *r) { c.Digests = append(c.Digests, wideDigest(w)) }},
		{2, api.ErrLong, func(w int, c *r) { c.Key = make([]byte, 65) }},
		{2, api.ErrLong, func(w int, c *r) { c.Path.Pairs = append(c.Path.Pairs, api.Pair{Key: make([]byte, 65)}) }},
		{2, api.ErrLong, func(w int, c *r) { c.Path.Pairs = append(c.Path.Pairs, api.Pair{Value: make([]byte, 257)}, api.Pair{}) }},
		{2, api.ErrForm, func(w int, c *r) { c.Path.Steps = append(c.Path.Steps, make([]api.Step, 2*w+1)...) }},
		{2, api.ErrForm, func(w int, c *r) { c.Path.Steps = append(c.Path.Steps, api.Step{Kids: make([]api.Digest, 17)}) }},
		{2, api.ErrForm, func(w int, c *r) {
			c.Path.Steps = append(c.Path.Steps, api.Step{Kids: []api.Digest{{}, wideDigest(w)}}, api.Step{})
		}},
		{3, api.ErrLong, func(w int, c *r) { c.Digests = append(c.Digests, make([]api.Digest, 129)...) }},
		{3, api.ErrForm, func(w int, c *r) { c.Digests = append([]api.Digest{wideDigest(w)}, c.Digests...) }},
		{3, api.ErrForm, func(w int, c *r) { c.Old.Log = wideDigest(w) }},
		{3, api.ErrForm, func(w int, c *r) { c.Old.Map = wideDigest(w) }},
	}
	for _, kind := range kinds() {
		list = append(list,
			spoiler{kind, api.ErrForm, func(w int, c *r) { c.Root.Log = wideDigest(w) }},
			spoiler{kind, api.ErrForm, func(w int, c *r) { c.Root.Map = wideDigest(w) }})
	}
	return list
}

// Each way to be wrong alone, and all sets of them: the least number is answered, and nothing beside it.
func TestErrors_TheLeastNumber(t *testing.T) {
	for _, kind := range kinds() {
		var ways []spoiler
		for _, s := range spoilers() {
			if s.kind == kind {
				ways = append(ways, s)
			}
		}
		for _, w := range []int{1, 4, 31} {
			for mask := range 1 << len(ways) {
				c := proof.Receipt{Kind: kind, Entry: api.Entry{Kind: api.Put}}
				want := api.OK
				for i, s := range ways {
					if mask>>i&1 == 0 {
						continue
					}
					s.how(w, &c)
					if want == api.OK || s.e < want {
						want = s.e
					}
				}
				if p, e := proof.Encode(w, c); e != want || want != api.OK && len(p) != 0 {
					t.Fatalf("kind %d, width %d, mask %b: %d bytes, %d, want %d", kind, w, mask, len(p), e, want)
				}
				for _, none := range []int{0, -1, 33, math.MaxInt, math.MinInt} {
					if p, e := proof.Encode(none, c); e != api.ErrArg || len(p) != 0 {
						t.Fatalf("kind %d, width %d: %d", kind, none, e)
					}
				}
			}
		}
	}
	for _, none := range []int{0, -1, 33, 64, math.MaxInt, math.MinInt} {
		for _, p := range [][]byte{nil, {9}, make([]byte, 100), wordsBytes(1, proof.Receipt{Kind: 3})} {
			r, e := proof.Decode(none, p)
			c, f := proof.Claimed(none, p)
			if e != api.ErrArg || f != api.ErrArg || !same(r, proof.Receipt{}) || !same(c, api.Claim{}) || proof.Verify(none, api.Claim{}, p) != api.ErrArg {
				t.Errorf("width %d: %d, %d", none, e, f)
			}
		}
		if _, e := proof.Encode(none, proof.Receipt{Kind: 9, Digests: make([]api.Digest, 200)}); e != api.ErrArg {
			t.Errorf("Encode at the width %d: %d", none, e)
		}
	}
}

// The limits, one below, at, and one beyond each.
func TestP17_2_AtTheLimits(t *testing.T) {
	for _, w := range []int{1, 2, 15, 31, 32} {
		check := func(c proof.Receipt, want api.Errno) {
			t.Helper()
			p, e := proof.Encode(w, c)
			if e != want {
				t.Fatalf("width %d, kind %d: Encode: %d, want %d", w, c.Kind, e, want)
			}
			if want != api.OK {
				p = wordsBytes(w, c)
				if _, f := wordsDecode(w, p); f != want {
					t.Fatalf("width %d, kind %d: the words' Decode: %d, want %d", w, c.Kind, f, want)
				}
			}
			holds(t, w, p)
		}
		for _, by := range []int{-1, 0, 1} {
			long, form := api.OK, api.OK
			if by == 1 {
				long, form = api.ErrLong, api.ErrForm
			}
			for _, at := range []int{1, 2} { // both kinds of entries
				if at == 1 {
					check(proof.Receipt{Kind: 1, Entry: api.Entry{Kind: byte(at), Value: make([]byte, 256+by)}}, long)
					check(proof.Receipt{Kind: 1, Entry: api.Entry{Kind: byte(at), Key: make([]byte, 64), Value: make([]byte, 256+by)}}, long)
				}
				check(proof.Receipt{Kind: 1, Entry: api.Entry{Kind: byte(at), Key: make([]byte, 64+by)}}, long)
				check(proof.Receipt{Kind: 1, Entry: api.Entry{Kind: byte(at)}, Digests: make([]api.Digest, 128+by)}, long)
			}
			check(proof.Receipt{Kind: 3, Digests: make([]api.Digest, 128+by)}, long)
			check(proof.Receipt{Kind: 2, Key: make([]byte, 64+by)}, long)
			check(proof.Receipt{Kind: 2, Path: api.KeyProof{Pairs: []api.Pair{{}, {Key: make([]byte, 64+by)}}}}, long)
			check(proof.Receipt{Kind: 2, Path: api.KeyProof{Pairs: []api.Pair{{}, {Value: make([]byte, 256+by)}}}}, long)
			check(proof.Receipt{Kind: 2, Path: api.KeyProof{Steps: make([]api.Step, 2*w+by)}}, form)
			check(proof.Receipt{Kind: 2, Path: api.KeyProof{Steps: []api.Step{{}, {Kids: make([]api.Digest, 16+by)}}}}, form)
		}
		check(proof.Receipt{Kind: 2, Path: api.KeyProof{Pairs: make([]api.Pair, 3000)}}, api.OK)
		check(proof.Receipt{Kind: 3, Root: api.Root{Size: math.MaxUint64}, Old: api.Root{Size: math.MaxUint64}}, api.OK)
		check(proof.Receipt{Kind: 1, Root: api.Root{Size: math.MaxUint64}, Index: math.MaxUint64, Entry: api.Entry{Kind: 2}}, api.OK)
	}
	if _, e := proof.Encode(5, proof.Receipt{Kind: 1, Entry: api.Entry{Kind: api.Delete, Value: []byte("v")}}); e != api.ErrForm {
		t.Errorf("Encode of a Delete with a value: %d", e)
	}
}

// A digest's bytes behind the width are looked at, each of them, wherever the digest goes in.
func TestP17_2_DigestsOfTheWidth(t *testing.T) {
	for w := 1; w < api.MaxWidth; w++ {
		for at := range api.MaxWidth {
			var d api.Digest
			d[at] = 0x80
			want := api.OK
			if at >= w {
				want = api.ErrForm
			}
			list := []api.Digest{{}, d, {}}
			for i, c := range []proof.Receipt{
				{Kind: 1, Entry: api.Entry{Kind: 1}, Digests: list}, {Kind: 3, Digests: list}, {Kind: 2, Path: api.KeyProof{Steps: []api.Step{{}, {Kids: list}}}},
				{Kind: 3, Root: api.Root{Log: d}}, {Kind: 3, Root: api.Root{Map: d}}, {Kind: 3, Old: api.Root{Log: d}}, {Kind: 3, Old: api.Root{Map: d}},
				{Kind: 2, Root: api.Root{Log: d}}, {Kind: 2, Root: api.Root{Map: d}},
			} {
				if _, e := proof.Encode(w, c); e != want {
					t.Errorf("width %d, byte %d, receipt %d: %d, want %d", w, at, i, e, want)
				}
			}
		}
	}
}

// ledger is a log with its tree, its map and its root.
type ledger struct {
	w       int
	entries []api.Entry
	tree    *mtree.Tree
	pairs   *hamt.Map
}

func newLedger(t testing.TB, w, n int) ledger {
	t.Helper()
	tree, e := mtree.New(w)
	m, f := hamt.New(w)
	if e != api.OK || f != api.OK {
		t.Fatalf("a ledger of the width %d: %d, %d", w, e, f)
	}
	l := ledger{w: w, tree: tree, pairs: m}
	for i := range n {
		l.add(entryOf(i))
	}
	return l
}

func entryOf(i int) api.Entry {
	key := []byte("k" + strconv.Itoa(i%7))
	if i%5 == 4 {
		return api.Entry{Kind: api.Delete, Key: key}
	}
	return api.Entry{Kind: api.Put, Key: key, Value: []byte(strings.Repeat("v", i%4) + strconv.Itoa(i))}
}

func (l *ledger) add(e api.Entry) {
	leaf, _ := digest.Leaf(l.w, wordsEntry(e))
	l.tree, _ = l.tree.Append(leaf)
	if e.Kind == api.Put {
		l.pairs, _ = l.pairs.Put(e.Key, e.Value)
	} else {
		l.pairs, _, _ = l.pairs.Delete(e.Key)
	}
	l.entries = append(l.entries, e)
}

func (l ledger) root() api.Root {
	d, _ := l.tree.Root(l.tree.Size())
	return api.Root{Size: l.tree.Size(), Log: d, Map: l.pairs.Root()}
}

func (l ledger) entry(i int) proof.Receipt {
	p, _ := mproof.Inclusion(l.tree, uint64(i), l.tree.Size())
	return proof.Receipt{Kind: api.ClaimEntry, Root: l.root(), Index: uint64(i), Entry: l.entries[i], Digests: p}
}

func (l ledger) key(key string) proof.Receipt {
	p, _ := hproof.Prove(l.pairs, []byte(key))
	return proof.Receipt{Kind: api.ClaimKey, Root: l.root(), Key: []byte(key), Path: p}
}

func (l ledger) since(t testing.TB, m int) proof.Receipt {
	p, _ := mproof.Consistency(l.tree, uint64(m), l.tree.Size())
	return proof.Receipt{Kind: api.ClaimSince, Root: l.root(), Old: newLedger(t, l.w, m).root(), Digests: p}
}

func laid(t testing.TB, w int, r proof.Receipt) []byte {
	t.Helper()
	p, e := proof.Encode(w, r)
	if e != api.OK {
		t.Fatalf("width %d: Encode(%v): %d", w, r, e)
	}
	return p
}

// honest answers receipts of all kinds of a ledger of n entries.
func honest(t testing.TB, w, n int) []proof.Receipt {
	l := newLedger(t, w, n)
	var list []proof.Receipt
	for i := range n {
		list = append(list, l.entry(i))
	}
	for i := range 9 {
		list = append(list, l.key("k"+strconv.Itoa(i)))
	}
	for m := range n + 1 {
		list = append(list, l.since(t, m))
	}
	return list
}

// Receipts of a ledger show what is so in it.
func TestP17_5_Honest(t *testing.T) {
	for _, w := range []int{1, 2, 7, 32} {
		for _, n := range []int{0, 1, 2, 3, 8, 13} {
			l := newLedger(t, w, n)
			root := cutSum(w, append([]byte{6}, wordsRootBytes(w, l.root())...))
			for i := range n {
				c, e := holds(t, w, laid(t, w, l.entry(i)))
				if e != api.OK || !same(c, api.Claim{Kind: 1, Root: root, Index: uint64(i), Entry: entryOf(i)}) {
					t.Fatalf("width %d: the entry %d of %d: %v, %d", w, i, n, c, e)
				}
			}
			for i := range 9 {
				key := "k" + strconv.Itoa(i)
				value, has, _ := l.pairs.Get([]byte(key))
				c, e := holds(t, w, laid(t, w, l.key(key)))
				if e != api.OK || !same(c, api.Claim{Kind: 2, Root: root, Key: []byte(key), Value: value, Present: has}) {
					t.Fatalf("width %d: the key %q of %d: %v, %d", w, key, n, c, e)
				}
			}
			for m := range n + 1 {
				old := cutSum(w, append([]byte{6}, wordsRootBytes(w, newLedger(t, w, m).root())...))
				c, e := holds(t, w, laid(t, w, l.since(t, m)))
				if e != api.OK || !same(c, api.Claim{Kind: 3, Root: root, Old: old}) {
					t.Fatalf("width %d: the beginning %d of %d: %v, %d", w, m, n, c, e)
				}
			}
		}
	}
}

// strays answers the bytes with one thing about them changed, at each place: a byte less, a byte more, another byte, cut off there.
func strays(p []byte) [][]byte {
	list := [][]byte{append(bytes.Clone(p), 0), append(bytes.Clone(p), p...)}
	for at, b := range p {
		list = append(list, bytes.Clone(p[:at]), slices.Delete(bytes.Clone(p), at, at+1), slices.Insert(bytes.Clone(p), at, 0x80), slices.Insert(bytes.Clone(p), at, b))
		for _, other := range []byte{0, 1, 2, 3, 4, 16, 17, 64, 65, 0x7f, 0x80, 0x81, 0xff, b ^ 1, b + 1, b - 1} {
			if other != b {
				q := bytes.Clone(p)
				q[at] = other
				list = append(list, q)
			}
		}
	}
	return list
}

// isSo tells whether a claim of an entry or of a key is so of the ledger.
func (l ledger) isSo(c api.Claim) bool {
	if c.Kind == api.ClaimEntry {
		return c.Index < uint64(len(l.entries)) && bytes.Equal(wordsEntry(c.Entry), wordsEntry(l.entries[c.Index]))
	}
	value, has, _ := l.pairs.Get(c.Key)
	return c.Present == has && bytes.Equal(c.Value, value)
}

// Decode and Claimed of what is nearly a receipt answer what the words say; at the full width nothing of it shows under the root anything but what is so.
func TestP17_3_AsTheWordsSay(t *testing.T) {
	for _, w := range []int{1, 2, 32} {
		taken, shown := 0, 0
		l := newLedger(t, w, 5)
		seal := cutSum(w, append([]byte{6}, wordsRootBytes(w, l.root())...))
		for _, r := range honest(t, w, 5) {
			for _, p := range strays(laid(t, w, r)) {
				c, e := holds(t, w, p)
				if e == api.ErrProof {
					taken++
				}
				if e == api.OK {
					shown++
					if w == 32 && c.Root == seal && c.Kind != api.ClaimSince && !l.isSo(c) {
						t.Fatalf("%x shows %v", p, c)
					}
				}
			}
		}
		if taken < 1000 || shown < 10 {
			t.Errorf("width %d: %d receipts that don't hold together, %d that do", w, taken, shown)
		}
	}
}

// All sets of good and bad parts, one behind the other: the first bad one decides.
func TestP17_3_TheFirstFaultDecides(t *testing.T) {
	const w = 1
	var products func(parts [][][]byte, at []byte, visit func(p []byte))
	products = func(parts [][][]byte, at []byte, visit func(p []byte)) {
		if len(parts) == 0 {
			visit(at)
			return
		}
		for _, part := range parts[0] {
			products(parts[1:], slices.Concat(at, part), visit)
		}
	}
	size := []byte{0, 0, 0, 0, 0, 0, 0, 1}
	root := [][]byte{append(bytes.Clone(size), 0xaa, 0xbb), size}
	numbers := [][]byte{{0}, {0x80}, {0x80, 0}, {0xff, 0xff, 0xff, 0xff, 0xff, 0xff, 0xff, 0xff, 0xff, 1}, {0xff, 0xff, 0xff, 0xff, 0xff, 0xff, 0xff, 0xff, 0xff, 2}}
	entries := [][]byte{{2, 2, 0}, {0}, {1, 2}, {2, 2, 65}, {3, 1, 0, 0}, {3, 2, 1, 9}, {4, 1, 0, 0x81, 2}, {5, 1, 0, 0x81, 2, 9}, {4, 2, 0, 0, 0}, {0xc5, 2}, {0xc4, 2}, {0xc4, 2, 1}, {0x82, 0, 2, 0}, {2, 3, 0}}
	digests := [][]byte{{0}, {1, 9}, {1}, {2, 9}, {0x80, 1}, {0x81, 1}, {0x81, 0, 9}, append([]byte{0x80, 1}, make([]byte, 128)...), append([]byte{0x81, 1}, make([]byte, 129)...)}
	ends := [][]byte{{}, {0}}
	keys := [][]byte{{0}, {1, 'k'}, {65}, {64}, {0x81, 0, 'k'}, append([]byte{65}, make([]byte, 65)...), append([]byte{64}, make([]byte, 64)...)}
	steps := [][]byte{{0}, {1, 0, 1, 1, 9}, {2, 0, 1, 0, 0xff, 0xff, 0}, {3}, {2, 0, 1, 0}, {1, 0}, {1, 0, 1, 16}, {1, 0, 1, 17}, {0x81, 0, 0, 1, 0}, append([]byte{1, 0, 1, 17}, make([]byte, 17)...), append([]byte{1, 0, 1, 16}, make([]byte, 16)...), append([]byte{3}, make([]byte, 9)...)}
	pairs := [][]byte{{0}, {1, 0, 0}, {1, 1, 'k', 1, 'v'}, {1, 65}, {1, 0, 0x81, 2}, {2, 0, 0, 65}, {2, 0, 0}, {1, 0, 0x80, 2}, {3, 0, 0, 0, 0x81, 2}, {0x80, 0}, {0xff, 0xff, 0xff, 0xff, 0xff, 0xff, 0xff, 0xff, 0xff, 1, 0, 0, 0, 0}, {0xff, 0xff, 0xff, 0xff, 0xff, 0xff, 0xff, 0xff, 0xff, 1, 0, 0, 65}}
	met := map[api.Errno]int{}
	visit := func(p []byte) {
		_, e := proof.Decode(w, p)
		met[e]++
		holds(t, w, p)
	}
	products([][][]byte{{{1}, {4}, {0}, {0x81, 1}}, root, numbers, entries, digests, ends}, nil, visit)
	products([][][]byte{{{2}}, root, keys, steps, pairs, ends}, nil, visit)
	products([][][]byte{{{3}}, root, root, digests, ends}, nil, visit)
	if met[api.OK] < 20 || met[api.ErrLong] < 100 || met[api.ErrForm] < 100 || len(met) != 3 {
		t.Errorf("met %v", met)
	}
}

// A count's limit is looked at ahead of whether its bytes are there, at each width.
func TestP17_3_Counts(t *testing.T) {
	for w := 1; w <= api.MaxWidth; w++ {
		head := make([]byte, 9+2*w)
		old := make([]byte, 8+2*w)
		step := []byte{0, 0, 1} // an empty key, one step, its bitmap's first byte
		for count := range uint64(150) {
			if w > 2 && count > 20 && count != uint64(2*w) && count != uint64(2*w+1) && count/4 != 32 {
				continue
			}
			for _, tail := range [][]byte{nil, {0}, make([]byte, 150*w)} {
				n := binary.AppendUvarint(nil, count)
				for i, p := range [][]byte{
					slices.Concat(head, []byte{0, 2, 2, 0}, n, tail), slices.Concat(head, old, n, tail), slices.Concat(head, []byte{0}, n, tail), slices.Concat(head, step, []byte{1}, n, tail), slices.Concat(head, n, tail), slices.Concat(head, []byte{0, 0}, n, tail),
				} {
					p[0] = []byte{1, 3, 2, 2, 2, 2}[i]
					holds(t, w, p)
				}
			}
		}
	}
}

// Where Decode answers OK its answer has the same bytes again: holds looks at it, here of random bytes behind a beginning that is one.
func TestP17_4_OneForm(t *testing.T) {
	r := rand.New(rand.NewSource(174))
	taken := 0
	for range 80000 {
		w := 1 + r.Intn(2)
		p := append([]byte{byte(1 + r.Intn(3))}, anyBytes(r, 8+2*w)...)
		for range r.Intn(14) {
			p = append(p, byte(r.Intn(4)))
		}
		if _, e := holds(t, w, p); e == api.OK || e == api.ErrProof {
			taken++
		}
	}
	if taken < 800 {
		t.Errorf("only %d of the random bytes were taken", taken)
	}
}

// Of the older map no more is looked at than its size tells.
func TestP17_5_OlderMaps(t *testing.T) {
	for _, w := range []int{1, 3, 32} {
		for n := range 6 {
			l := newLedger(t, w, n)
			for m := range n + 1 {
				good := l.since(t, m)
				for at := range 3 * w {
					r := good
					switch at / w {
					case 0:
						r.Old.Map[at%w] ^= 4
					case 1:
						r.Root.Map[at%w] ^= 4
					case 2:
						r.Old.Map[at%w] ^= 4
						r.Root.Map = r.Old.Map
					}
					want := api.OK
					if m == n && r.Old.Map != r.Root.Map || m == 0 && r.Old.Map != cutSum(w, []byte{5}) {
						want = api.ErrProof
					}
					if _, e := holds(t, w, laid(t, w, r)); e != want {
						t.Errorf("width %d, sizes %d and %d, byte %d: %d, want %d", w, m, n, at, e, want)
					}
				}
			}
		}
	}
}

// Sizes and indices, beside their edges and at the greatest there are.
func TestP17_5_Sizes(t *testing.T) {
	const w = 4
	l := newLedger(t, w, 6)
	sizes := []uint64{0, 1, 2, 3, 4, 5, 6, 7, 8, 1 << 31, 1 << 32, 1 << 63, math.MaxUint64}
	shown := 0
	for _, size := range sizes {
		for _, other := range sizes {
			for i := range 6 {
				r := l.entry(i)
				r.Root.Size, r.Index = size, other
				if _, e := holds(t, w, laid(t, w, r)); e == api.OK {
					shown++
				}
			}
			for m := range 7 {
				r := l.since(t, m)
				r.Root.Size, r.Old.Size = size, other
				holds(t, w, laid(t, w, r))
				r.Old = l.root()
				r.Old.Size = other
				holds(t, w, laid(t, w, r))
			}
		}
	}
	if shown < 6 {
		t.Errorf("%d receipts of entries show something", shown)
	}
	for _, n := range []uint64{1 << 40, 1<<63 + 5, math.MaxUint64} { // ways that no tree was made for
		r := rand.New(rand.NewSource(175))
		for _, i := range []uint64{0, 1, n / 3, n - 1} {
			for count := range 66 {
				way := anyDigests(r, w, count)
				e := api.Entry{Kind: api.Put, Key: []byte("k"), Value: []byte("v")}
				leaf, _ := digest.Leaf(w, wordsEntry(e))
				root, f := mcheck.RootOf(w, leaf, i, n, way)
				c, g := holds(t, w, laid(t, w, proof.Receipt{Kind: 1, Root: api.Root{Size: n, Log: root}, Index: i, Entry: e, Digests: way}))
				if f != g || g == api.OK && c.Index != i {
					t.Errorf("a way of %d digests of %d in %d: %d, %d", count, i, n, f, g)
				}
			}
		}
	}
}

// variants answers claims that differ from c in one field each, and whether that field counts for the kind.
func variants(c api.Claim) []struct {
	c      api.Claim
	counts bool
} {
	type variant = struct {
		c      api.Claim
		counts bool
	}
	var list []variant
	change := func(counts bool, how func(*api.Claim)) {
		d := clone(c)
		how(&d)
		list = append(list, variant{d, counts})
	}
	entry, key, since := c.Kind == 1, c.Kind == 2, c.Kind == 3
	for kind := range 256 {
		change(byte(kind) != c.Kind, func(d *api.Claim) { d.Kind = byte(kind) })
	}
	for at := range 32 {
		change(true, func(d *api.Claim) { d.Root[at] ^= 1 })
		change(since, func(d *api.Claim) { d.Old[at] ^= 1 })
	}
	for at := range 64 {
		change(entry, func(d *api.Claim) { d.Index ^= 1 << at })
	}
	for _, kind := range []byte{0, 1, 2, 3} {
		change(entry && kind != c.Entry.Kind, func(d *api.Claim) { d.Entry.Kind = kind })
	}
	change(key, func(d *api.Claim) { d.Present = !d.Present })
	for _, field := range []struct {
		counts bool
		of     func(*api.Claim) *[]byte
	}{
		{entry, func(d *api.Claim) *[]byte { return &d.Entry.Key }},
		{entry, func(d *api.Claim) *[]byte { return &d.Entry.Value }},
		{key, func(d *api.Claim) *[]byte { return &d.Key }},
		{key && c.Present, func(d *api.Claim) *[]byte { return &d.Value }},
	} {
		was := *field.of(&c)
		for _, to := range [][]byte{nil, {}, append(bytes.Clone(was), 0), []byte("other"), was[:len(was)/2], bytes.Repeat([]byte{1}, 300)} {
			change(field.counts && !bytes.Equal(to, was), func(d *api.Claim) { *field.of(d) = to })
		}
		for at := range was {
			change(field.counts, func(d *api.Claim) { (*field.of(d))[at] ^= 0x20 })
		}
	}
	return list
}

// Verify takes the claim that is shown, and no other, in what its kind names.
func TestP17_6_OneClaim(t *testing.T) {
	for _, w := range []int{1, 8, 32} {
		for _, r := range honest(t, w, 6) {
			p := laid(t, w, r)
			c, e := proof.Claimed(w, p)
			if e != api.OK {
				t.Fatalf("Claimed: %d", e)
			}
			for _, v := range variants(c) {
				want := api.OK
				if v.counts {
					want = api.ErrProof
				}
				if e := proof.Verify(w, v.c, p); e != want {
					t.Errorf("width %d: Verify(%v) of what shows %v: %d, want %d", w, v.c, c, e, want)
				}
			}
			full := clone(c) // all that the kind does not name, at once
			full.Index, full.Entry, full.Key, full.Value, full.Present, full.Old = 77, api.Entry{Kind: 9, Key: []byte("x")}, []byte("y"), []byte("z"), !c.Present, api.Digest{31: 1}
			switch c.Kind {
			case 1:
				full.Index, full.Entry = c.Index, c.Entry
			case 2:
				full.Key, full.Present = c.Key, c.Present
				if c.Present {
					full.Value = c.Value
				}
			case 3:
				full.Old = c.Old
			}
			if e := proof.Verify(w, full, p); e != api.OK {
				t.Errorf("width %d: Verify(%v) of what shows %v: %d", w, full, c, e)
			}
		}
	}
}

// Verify answers Claimed's error, whatever the claim is.
func TestP17_6_Refused(t *testing.T) {
	l := newLedger(t, 2, 4)
	other := l.entry(1)
	other.Index = 9
	for _, c := range []struct {
		p []byte
		e api.Errno
	}{
		{nil, api.ErrForm}, {laid(t, 2, l.entry(1))[1:], api.ErrForm}, {laid(t, 2, other), api.ErrProof},
		{slices.Concat([]byte{2}, make([]byte, 12), []byte{65}), api.ErrLong},
	} {
		for _, claim := range []api.Claim{{}, {Kind: 1}, {Kind: 2}, {Kind: 3}, {Kind: 9}} {
			if e := proof.Verify(2, claim, c.p); e != c.e {
				t.Errorf("Verify(%v, %x) = %d, want %d", claim, c.p, e, c.e)
			}
		}
		if claim, e := proof.Claimed(2, c.p); e != c.e || !same(claim, api.Claim{}) {
			t.Errorf("Claimed(%x) = %v, %d, want %d", c.p, claim, e, c.e)
		}
	}
}

// roomOf answers how many bytes a call lays out: the least of some tries, since others may lay out some meanwhile.
func roomOf(f func()) uint64 {
	least := uint64(math.MaxUint64)
	for range 5 {
		var before, after runtime.MemStats
		runtime.ReadMemStats(&before)
		f()
		runtime.ReadMemStats(&after)
		least = min(least, after.TotalAlloc-before.TotalAlloc)
	}
	return least
}

// A count that the bytes can't hold takes no room of its own.
func TestP17_7_NoRoomForCounts(t *testing.T) {
	const w = 32
	head := make([]byte, 9+2*w)
	most := binary.AppendUvarint(nil, math.MaxUint64)
	for _, count := range [][]byte{most, binary.AppendUvarint(nil, 1<<31), binary.AppendUvarint(nil, 1<<40), {0xff, 0xff, 0x3f}} {
		for i, p := range [][]byte{
			slices.Concat(head, []byte{0, 0}, count), slices.Concat(head, []byte{0, 0}, count, make([]byte, 7)), slices.Concat(head, count), slices.Concat(head, []byte{0}, count), slices.Concat(head, []byte{0, 1, 0, 1}, count),
			slices.Concat(head, []byte{0}, count), slices.Concat(head, []byte{0, 2, 2, 0}, count), slices.Concat(head, make([]byte, 8+2*w), count),
		} {
			p[0] = []byte{2, 2, 2, 2, 2, 1, 1, 3}[i]
			if r, e := proof.Decode(w, p); e == api.OK || !same(r, proof.Receipt{}) {
				t.Errorf("Decode(%x): %d", p, e)
			}
			if room := roomOf(func() { proof.Decode(w, p) }); room > 3000 {
				t.Errorf("Decode(%x) lays out %d bytes", p, room)
			}
		}
	}
	for i, p := range [][]byte{slices.Concat(head, []byte{0, 2, 2, 0, 0x80, 1}, make([]byte, 32)), slices.Concat(head, make([]byte, 8+2*w), []byte{0x80, 1}, make([]byte, 32))} {
		p[0] = []byte{1, 3}[i]
		if room := roomOf(func() { proof.Decode(w, p) }); room > 3000 {
			t.Errorf("Decode(%x) lays out %d bytes", p, room)
		}
	}
}

// No bytes make a call panic, and each ends: long ones too.
func TestP17_7_LongBytes(t *testing.T) {
	const w = 32
	head := append([]byte{2}, make([]byte, 8+2*w+2)...)
	many := make([]byte, 1<<20)
	for _, count := range []uint64{1 << 19, 1<<19 - 1, 1<<19 + 1, math.MaxUint64} {
		p := slices.Concat(head, binary.AppendUvarint(nil, count), many)
		r, e := proof.Decode(w, p)
		if want := api.ErrForm; count == 1<<19 && (e != api.OK || len(r.Path.Pairs) != 1<<19) || count != 1<<19 && (e != want || !same(r, proof.Receipt{})) {
			t.Errorf("%d pairs: %d pairs, %d", count, len(r.Path.Pairs), e)
		}
		if _, e := proof.Claimed(w, p); e == api.OK {
			t.Errorf("%d empty pairs show something", count)
		}
	}
	for _, first := range []byte{0, 1, 2, 3, 0xff} {
		for _, fill := range []byte{0, 1, 0x7f, 0x80, 0xff} {
			p := append([]byte{first}, bytes.Repeat([]byte{fill}, 1<<16)...)
			holds(t, w, p)
			holds(t, 1, p)
		}
	}
}

// Of anything that is handed in Encode makes bytes or tells why not.
func TestP1_AnyReceipt(t *testing.T) {
	for kind := range 5 {
		for w := -1; w < 35; w++ {
			proof.Encode(w, proof.Receipt{Kind: byte(kind)})
			proof.Decode(w, nil)
			proof.Claimed(w, []byte{byte(kind)})
			proof.Verify(w, api.Claim{}, nil)
		}
	}
}

// room answers a copy of p with spare room behind it, filled, and a check that nothing of it has changed.
func room(p []byte) ([]byte, func() bool) {
	whole := append(bytes.Clone(p), bytes.Repeat([]byte{0xee}, 40)...)
	before := bytes.Clone(whole)
	return whole[:len(p)], func() bool { return bytes.Equal(whole, before) }
}

func digestRoom(list []api.Digest) ([]api.Digest, func() bool) {
	whole := append(slices.Clone(list), slices.Repeat([]api.Digest{{9, 9}}, 20)...)
	before := slices.Clone(whole)
	return whole[:len(list)], func() bool { return slices.Equal(whole, before) }
}

// What is handed in stays as it is, its spare room too, and is not kept.
func TestMemory_Arguments(t *testing.T) {
	const w = 3
	for _, r := range honest(t, w, 6) {
		want := laid(t, w, r)
		var checks []func() bool
		keep := func(p []byte, check func() bool) []byte { checks = append(checks, check); return p }
		keepDigests := func(p []api.Digest, check func() bool) []api.Digest { checks = append(checks, check); return p }
		c := clone(r)
		c.Entry.Key, c.Entry.Value, c.Key = keep(room(c.Entry.Key)), keep(room(c.Entry.Value)), keep(room(c.Key))
		if c.Entry.Kind == api.Delete {
			c.Entry.Value = nil
		}
		c.Digests = keepDigests(digestRoom(c.Digests))
		for i := range c.Path.Steps {
			c.Path.Steps[i].Kids = keepDigests(digestRoom(c.Path.Steps[i].Kids))
		}
		for i, pair := range c.Path.Pairs {
			c.Path.Pairs[i] = api.Pair{Key: keep(room(pair.Key)), Value: keep(room(pair.Value))}
		}
		p := laid(t, w, c)
		bytesIn, check := room(p)
		checks = append(checks, check)
		back, e := proof.Decode(w, bytesIn)
		claim, f := proof.Claimed(w, bytesIn)
		if e != api.OK || f != api.OK {
			t.Fatalf("%d, %d", e, f)
		}
		given := clone(claim)
		for _, field := range []*[]byte{&given.Key, &given.Value, &given.Entry.Key, &given.Entry.Value} {
			*field = keep(room(*field))
		}
		if e := proof.Verify(w, given, bytesIn); e != api.OK {
			t.Fatalf("Verify: %d", e)
		}
		for _, check := range checks {
			if !check() {
				t.Fatal("what was handed in has changed")
			}
		}
		was := clone(claim)
		scrawl(bytesIn)
		scrawlAll(c)
		scrawl(given.Key)
		scrawl(given.Value)
		if !bytes.Equal(p, want) || !same(back, r) || !same(claim, was) {
			t.Error("an answer hangs on what was handed in")
		}
	}
}

// scrawl writes over the bytes and their spare room.
func scrawl(p []byte) {
	p = p[:cap(p)]
	for i := range p {
		p[i] ^= 0x5a
	}
}

func scrawlDigests(list []api.Digest) {
	list = list[:cap(list)]
	for i := range list {
		list[i][i%32] ^= 0x5a
	}
}

// lists answers a function for each list of the receipt, which writes over it and its spare room.
func lists(r proof.Receipt) []func() {
	fs := []func(){func() { scrawl(r.Key) }, func() { scrawl(r.Entry.Key) }, func() { scrawl(r.Entry.Value) }, func() { scrawlDigests(r.Digests) }}
	for _, step := range r.Path.Steps {
		fs = append(fs, func() { scrawlDigests(step.Kids) })
	}
	for _, pair := range r.Path.Pairs {
		fs = append(fs, func() { scrawl(pair.Key) }, func() { scrawl(pair.Value) })
	}
	return fs
}

func scrawlAll(r proof.Receipt) {
	for _, f := range lists(r) {
		f()
	}
}

// Answers share no memory with the bytes, with one another, or among their lists, spare room too.
func TestMemory_Answers(t *testing.T) {
	const w = 1
	all := honest(t, w, 12)
	r := rand.New(rand.NewSource(176))
	for range 30 {
		all = append(all, anyReceipt(r, w, api.ClaimKey))
	}
	for _, r := range all {
		p := laid(t, w, r)
		q := laid(t, w, r)
		scrawl(p)
		if p = laid(t, w, r); !bytes.Equal(p, q) {
			t.Fatal("two answers of Encode share memory")
		}
		first, _ := proof.Decode(w, p)
		for at := range lists(first) {
			one, _ := proof.Decode(w, p)
			kept := clone(one)
			lists(one)[at]()
			if !bytes.Equal(p, q) || !same(first, r) {
				t.Fatal("an answer shares memory with the bytes, or with another answer")
			}
			lists(kept)[at]() // the same list of a copy that shares nothing: all others must be as they are in it
			if !same(one, kept) {
				t.Fatal("two lists of one answer share memory")
			}
		}
		c, e := proof.Claimed(w, p)
		if e != api.OK {
			continue
		}
		for at := range 4 {
			d, _ := proof.Claimed(w, p)
			kept := clone(d)
			list := func(c api.Claim) []byte { return [][]byte{c.Key, c.Value, c.Entry.Key, c.Entry.Value}[at] }
			scrawl(list(d))
			scrawl(list(kept))
			if !same(d, kept) || !bytes.Equal(p, q) || proof.Verify(w, c, p) != api.OK {
				t.Fatal("a claim shares memory")
			}
		}
	}
}

func TestP2_ManyAtATime(t *testing.T) {
	const w = 5
	all := honest(t, w, 9)
	var group sync.WaitGroup
	for at := range 16 {
		group.Go(func() {
			for j := range all {
				r := all[(j+7*at)%len(all)]
				p, e := proof.Encode(w, r)
				c, f := proof.Claimed(w, p)
				if back, g := proof.Decode(w, p); e != api.OK || f != api.OK || g != api.OK || !same(back, r) || proof.Verify(w, c, p) != api.OK {
					t.Errorf("goroutine %d: %d, %d, %d", at, e, f, g)
				}
				c.Root[0]++
				if e := proof.Verify(w, c, p); e != api.ErrProof {
					t.Errorf("goroutine %d: another root: %d", at, e)
				}
			}
		})
	}
	group.Wait()
}

func TestP17_Examples(t *testing.T) {
	const w = 1
	aa, bb, noLog := cutSum(w, []byte{0, 2, 0}), cutSum(w, []byte{5}), cutSum(w, nil)
	root := []byte{0, 0, 0, 0, 0, 0, 0, 1, aa[0], bb[0]}
	seal := cutSum(w, append([]byte{6}, root...))
	claimed := func(p []byte, want api.Claim, e api.Errno) {
		t.Helper()
		if c, f := holds(t, w, p); f != e || !same(c, want) {
			t.Errorf("Claimed(%x) = %v, %d, want %v, %d", p, c, f, want, e)
		}
	}
	one := slices.Concat([]byte{1}, root, []byte{0, 2, 2, 0, 0})
	c := api.Claim{Kind: 1, Root: seal, Entry: api.Entry{Kind: api.Delete}}
	claimed(one, c, api.OK)
	if p := laid(t, w, proof.Receipt{Kind: 1, Root: api.Root{Size: 1, Log: aa, Map: bb}, Entry: api.Entry{Kind: api.Delete}}); !bytes.Equal(p, one) {
		t.Errorf("example 1: %x", p)
	}
	claimed(slices.Concat([]byte{1}, root, []byte{1, 2, 2, 0, 0}), api.Claim{}, api.ErrProof)
	claimed(slices.Concat([]byte{4}, root, []byte{0, 2, 2, 0, 0}), api.Claim{}, api.ErrForm)
	claimed(append(bytes.Clone(one), 0), api.Claim{}, api.ErrForm)
	claimed(one[:len(one)-1], api.Claim{}, api.ErrForm)
	claimed(slices.Concat([]byte{1}, root, []byte{0, 2, 2, 0, 0x81, 1}), api.Claim{}, api.ErrLong)
	claimed(slices.Concat([]byte{2}, root, []byte{1, 'k', 0, 0}), api.Claim{Kind: 2, Root: seal, Key: []byte("k")}, api.OK)
	older := []byte{0, 0, 0, 0, 0, 0, 0, 0, noLog[0], bb[0]}
	old := cutSum(w, append([]byte{6}, older...))
	claimed(slices.Concat([]byte{3}, root, older, []byte{0}), api.Claim{Kind: 3, Root: seal, Old: old}, api.OK)
	older[9]++
	claimed(slices.Concat([]byte{3}, root, older, []byte{0}), api.Claim{}, api.ErrProof)
	c.Key, c.Value, c.Present, c.Old = []byte("x"), []byte("y"), true, api.Digest{5}
	if e := proof.Verify(w, c, one); e != api.OK {
		t.Errorf("example 5: %d", e)
	}
	for i, how := range []func(*api.Claim){func(c *api.Claim) { c.Root[0]++ }, func(c *api.Claim) { c.Entry.Key = []byte("k") }, func(c *api.Claim) { c.Kind = 2 }} {
		d := c
		how(&d)
		if e := proof.Verify(w, d, one); e != api.ErrProof {
			t.Errorf("example 5, %d: %d", i, e)
		}
	}
}

// Receipts that another program made, of the width 4: a log of three entries, Put "a" "x", Delete "b" and Put "c" "", and its map.
func TestP17_1_MadeElsewhere(t *testing.T) {
	const w = 4
	l := newLedger(t, w, 0)
	for _, e := range []api.Entry{{Kind: 1, Key: []byte("a"), Value: []byte("x")}, {Kind: 2, Key: []byte("b")}, {Kind: 1, Key: []byte("c")}} {
		l.add(e)
	}
	since := proof.Receipt{Kind: 3, Root: l.root()}
	short := newLedger(t, w, 0)
	short.add(l.entries[0])
	short.add(l.entries[1])
	since.Old = short.root()
	since.Digests, _ = mproof.Consistency(l.tree, 2, 3)
	for _, c := range []struct {
		r    proof.Receipt
		want string
	}{
		{l.entry(1), "010000000000000003c76211ac00cf6a8b010302016202f707697db1562bce"}, {l.key("c"), "020000000000000003c76211ac00cf6a8b016301804001a46d1fc101016300"}, {l.key("z"), "020000000000000003c76211ac00cf6a8b017a0180400223325c67a46d1fc100"}, {since, "030000000000000003c76211ac00cf6a8b0000000000000002dd53ee64a46d1fc101b1562bce"},
	} {
		if p := laid(t, w, c.r); hex.EncodeToString(p) != c.want {
			t.Errorf("kind %d: %x, want %s", c.r.Kind, p, c.want)
		}
	}
}

func FuzzAsTheWordsSay(f *testing.F) {
	for _, w := range []int{1, 4, 32} {
		for _, r := range honest(f, w, 4) {
			f.Add(uint8(w), laid(f, w, r))
		}
	}
	f.Fuzz(func(t *testing.T, w uint8, p []byte) {
		holds(t, int(w)%35, p)
	})
}

package proof

import (
	"math"

	"notary/api"
	"notary/entry"
	"notary/wire"
)

const (
	sizeBytes = 8                                     // a root's Size
	mostEntry = 1 + 1 + api.MaxKey + 2 + api.MaxValue // the bytes of the greatest entry: its kind, and key and value behind their lengths
)

// giveUp is what a decoder panics with at the first thing that can't be so, however deep it stands; Decode catches it.
type giveUp struct {
	why api.Errno
}

// reason answers why a decoder gave up. Any other panic tells nothing about the bytes, and goes on.
func reason(thrown any) api.Errno {
	gave, ok := thrown.(giveUp)
	if !ok {
		panic(thrown)
	}
	return gave.why
}

func demand(fault api.Errno) {
	if fault != api.OK {
		panic(giveUp{fault})
	}
}

// takeReceipt takes a receipt off, whatever stands behind it. A Reader keeps its first fault, so each part may leave it to the next one to ask.
func takeReceipt(from *wire.Reader, w int) Receipt {
	r := Receipt{Kind: takeKind(from), Root: takeRoot(from, w)}
	switch r.Kind {
	case api.ClaimEntry:
		r.Index = from.Uvar()
		r.Entry = takeEntry(from)
		r.Digests = takeDigests(from, w, api.MaxDigests, api.ErrLong)
	case api.ClaimKey:
		r.Key = from.Blob(api.MaxKey)
		r.Path.Steps = takeSteps(from, w)
		r.Path.Pairs = takePairs(from)
	case api.ClaimSince:
		r.Old = takeRoot(from, w)
		r.Digests = takeDigests(from, w, api.MaxDigests, api.ErrLong)
	}
	return r
}

func takeKind(from *wire.Reader) byte {
	kind := from.U8() // where no byte is left it is 0, which is no kind either
	if kind != api.ClaimEntry && kind != api.ClaimKey && kind != api.ClaimSince {
		demand(api.ErrForm)
	}
	return kind
}

func takeRoot(from *wire.Reader, w int) api.Root {
	p := from.Raw(sizeBytes + 2*w)
	demand(from.Err())
	root, _ := entry.DecodeRoot(w, p) // can't be refused: there are as many bytes as a root has
	return root
}

func takeEntry(from *wire.Reader) api.Entry {
	p := from.Blob(mostEntry)
	demand(from.Err())
	e, fault := entry.Decode(p)
	demand(fault)
	return e
}

// takeCount takes a count off, and gives up with beyond if it is above most, whatever bytes are left.
func takeCount(from *wire.Reader, most uint64, beyond api.Errno) uint64 {
	count := from.Uvar()
	demand(from.Err())
	if count > most {
		demand(beyond)
	}
	return count
}

// takeDigests takes a list of digests off. The list grows with the bytes that are there, here as below, never by its count: whoever wrote that may have lied.
func takeDigests(from *wire.Reader, w int, most uint64, beyond api.Errno) []api.Digest {
	var digests []api.Digest
	for range takeCount(from, most, beyond) {
		var d api.Digest
		copy(d[:], from.Raw(w))
		demand(from.Err())
		digests = append(digests, d)
	}
	return digests
}

func takeSteps(from *wire.Reader, w int) []api.Step {
	var steps []api.Step
	for range takeCount(from, uint64(mostSteps(w)), api.ErrForm) {
		bitmap := from.U16()
		steps = append(steps, api.Step{Bitmap: bitmap, Kids: takeDigests(from, w, mostKids, api.ErrForm)})
	}
	return steps
}

func takePairs(from *wire.Reader) []api.Pair {
	var pairs []api.Pair
	for range takeCount(from, math.MaxUint64, api.ErrForm) {
		pair := api.Pair{Key: from.Blob(api.MaxKey), Value: from.Blob(api.MaxValue)}
		demand(from.Err())
		pairs = append(pairs, pair)
	}
	return pairs
}

package proof

import (
	"slices"

	"notary/api"
	"notary/digest"
	"notary/entry"
	"notary/wire"
)

const mostKids = 16 // a branch has a child for each digit at most

// check answers the error with the least number of all that the receipt's kind looks at.
func check(w int, r Receipt) api.Errno {
	switch {
	case !isWidth(w):
		return api.ErrArg
	case long(r):
		return api.ErrLong
	case !formed(w, r):
		return api.ErrForm
	}
	return api.OK
}

// long tells whether there is more of something than may be.
func long(r Receipt) bool {
	switch r.Kind {
	case api.ClaimEntry:
		return len(r.Digests) > api.MaxDigests || entry.Check(r.Entry) == api.ErrLong
	case api.ClaimKey:
		return len(r.Key) > api.MaxKey || slices.ContainsFunc(r.Path.Pairs, longPair)
	case api.ClaimSince:
		return len(r.Digests) > api.MaxDigests
	}
	return false
}

func longPair(pair api.Pair) bool {
	return len(pair.Key) > api.MaxKey || len(pair.Value) > api.MaxValue
}

// formed tells whether the receipt is of a kind that there is, and all that goes in is of the form.
func formed(w int, r Receipt) bool {
	if !widthOf(w, r.Root.Log, r.Root.Map) {
		return false
	}
	switch r.Kind {
	case api.ClaimEntry:
		return entry.Check(r.Entry) == api.OK && widthOf(w, r.Digests...)
	case api.ClaimKey:
		return formedSteps(w, r.Path.Steps)
	case api.ClaimSince:
		return widthOf(w, r.Old.Log, r.Old.Map) && widthOf(w, r.Digests...)
	}
	return false
}

func formedSteps(w int, steps []api.Step) bool {
	if len(steps) > mostSteps(w) {
		return false
	}
	for _, step := range steps {
		if len(step.Kids) > mostKids || !widthOf(w, step.Kids...) {
			return false
		}
	}
	return true
}

// mostSteps answers how many digits a digest has: no path is longer.
func mostSteps(w int) int { return 2 * w }

// widthOf tells whether all digests are of the width.
func widthOf(w int, digests ...api.Digest) bool {
	for _, d := range digests {
		if !digest.Form(w, d) {
			return false
		}
	}
	return true
}

// layReceipt lays a receipt that check has found nothing wrong with.
func layReceipt(to *wire.Writer, w int, r Receipt) {
	to.U8(r.Kind)
	layRoot(to, w, r.Root)
	switch r.Kind {
	case api.ClaimEntry:
		to.Uvar(r.Index)
		p, _ := entry.Encode(r.Entry) // can't be refused, nor can a root below: all was checked
		to.Blob(p)
		layDigests(to, w, r.Digests)
	case api.ClaimKey:
		to.Blob(r.Key)
		laySteps(to, w, r.Path.Steps)
		layPairs(to, r.Path.Pairs)
	case api.ClaimSince:
		layRoot(to, w, r.Old)
		layDigests(to, w, r.Digests)
	}
}

func layRoot(to *wire.Writer, w int, root api.Root) {
	p, _ := entry.EncodeRoot(w, root)
	to.Raw(p)
}

func layDigests(to *wire.Writer, w int, digests []api.Digest) {
	to.Uvar(uint64(len(digests)))
	for _, d := range digests {
		to.Raw(d[:w])
	}
}

func laySteps(to *wire.Writer, w int, steps []api.Step) {
	to.Uvar(uint64(len(steps)))
	for _, step := range steps {
		to.U16(step.Bitmap)
		layDigests(to, w, step.Kids)
	}
}

func layPairs(to *wire.Writer, pairs []api.Pair) {
	to.Uvar(uint64(len(pairs)))
	for _, pair := range pairs {
		to.Blob(pair.Key)
		to.Blob(pair.Value)
	}
}

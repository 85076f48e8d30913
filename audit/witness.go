package audit

import (
	"notary/api"
	"notary/digest"
	"notary/proof"
)

// Witness keeps the newest root that it was shown.
type Witness struct {
	width int
	root  api.Root
	knows bool
}

// NewWitness answers a witness that knows nothing.
func NewWitness(w int) (*Witness, api.Errno) {
	if w < 1 || w > api.MaxWidth {
		return nil, api.ErrArg
	}
	return &Witness{width: w}, api.OK
}

// Show shows it a root, with a receipt that the one it knows is the beginning; of the first root it asks for none.
func (t *Witness) Show(r api.Root, receipt []byte) api.Errno {
	if t.none() {
		return api.ErrNone
	}
	seal, e := digest.Root(t.width, r)
	if e == api.OK && t.knows {
		e = proof.Verify(t.width, api.Claim{Kind: api.ClaimSince, Root: seal, Old: t.sealed()}, receipt)
	}
	if e == api.OK {
		t.root, t.knows = r, true
	}
	return e
}

// Known answers the newest root that it was shown, and whether there is one.
func (t *Witness) Known() (api.Root, bool) {
	if t.none() {
		return api.Root{}, false
	}
	return t.root, t.knows
}

func (t *Witness) sealed() api.Digest {
	d, _ := digest.Root(t.width, t.root) // can't be refused: the root was taken
	return d
}

// none tells a witness that NewWitness has not made: it has no width, and is answered as a nil one is.
func (t *Witness) none() bool { return t == nil || t.width == 0 }

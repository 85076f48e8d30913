package audit

import (
	"bytes"

	"notary/api"
	"notary/proof"
	"notary/snap"
)

// ended answers the rule that the end of a call breaks by its answer.
func (h *history) ended(c *client, call api.Call, a api.Answer) int {
	switch call.Kind {
	case api.CallAppend:
		return unless(a.E != api.OK || h.ordered(c, call.Entry, a.Index), RuleOrder)
	case api.CallPin:
		return unless(h.pinned(c, a), RulePin)
	case api.CallGet:
		return unless(h.read(c, call.Key, a), RuleRead)
	case api.CallEntry, api.CallKey, api.CallSince:
		return unless(h.shown(c, call, a), RuleReceipt)
	case api.CallClose:
		return noRule
	}
	return unless(a.E == api.ErrArg, RuleRead)
}

func unless(right bool, rule int) int {
	if right {
		return noRule
	}
	return rule
}

// ordered tells whether an Append of the entry may be answered the index.
func (h *history) ordered(c *client, own api.Entry, index uint64) bool {
	_, twice := h.given[index]
	h.given[index] = struct{}{}
	if index >= h.count() {
		return false
	}
	h.floor = max(h.floor, index+1)
	return !twice && index >= h.start && index >= c.floor && alike(h.entry(index), own)
}

// pinned tells whether a Pin may be answered so. The client's reads are held against what it says, even if it may not.
func (h *history) pinned(c *client, a api.Answer) bool {
	size := a.Root.Size
	if size > h.count() {
		return false
	}
	c.size = size
	h.floor = max(h.floor, size)
	return a.E == api.OK && size >= c.floor && a.Root == h.ledgers[size].Root()
}

// read tells whether a Get of the key may be answered so.
func (h *history) read(c *client, key []byte, a api.Answer) bool {
	if c.size > h.count() {
		return true
	}
	value, present, e := h.ledgers[c.size].Get(key)
	return a.E == e && a.Present == present && bytes.Equal(a.Value, value)
}

// shown tells whether a call for a receipt may be answered so.
func (h *history) shown(c *client, call api.Call, a api.Answer) bool {
	if c.size > h.count() {
		return true
	}
	ledger := h.ledgers[c.size]
	claim, e := h.due(ledger, call)
	if a.E == api.OK {
		return e == api.OK && proof.Verify(ledger.Width(), claim, a.Receipt) == api.OK
	}
	return len(a.Receipt) == 0 && (a.E == e || a.E == api.ErrNone && noBoundary(call, c.size))
}

// noBoundary tells whether the call may ask for the beginning at a size that no batch left: entries alone don't tell which sizes those are.
func noBoundary(call api.Call, size uint64) bool {
	return call.Kind == api.CallSince && call.N < size
}

// due answers the claim that the receipt has to show, or the error by which there is none.
func (h *history) due(ledger *snap.Snap, call api.Call) (api.Claim, api.Errno) {
	claim := api.Claim{Root: ledger.Sealed()}
	e := api.OK
	switch call.Kind {
	case api.CallEntry:
		claim.Kind, claim.Index = api.ClaimEntry, call.N
		claim.Entry, e = ledger.Entry(call.N)
	case api.CallKey:
		claim.Kind, claim.Key = api.ClaimKey, call.Key
		claim.Value, claim.Present, e = ledger.Get(call.Key)
	case api.CallSince:
		if call.N > ledger.Size() {
			return api.Claim{}, api.ErrRange
		}
		claim.Kind, claim.Old = api.ClaimSince, h.ledgers[call.N].Sealed()
	}
	return claim, e
}

// entry answers the entry at the index, which is below the count.
func (h *history) entry(index uint64) api.Entry {
	own, _ := h.ledgers[index+1].Entry(index) // can't be missing: it is the last one of that ledger
	return own
}

func alike(a, b api.Entry) bool {
	return a.Kind == b.Kind && bytes.Equal(a.Key, b.Key) && bytes.Equal(a.Value, b.Value)
}

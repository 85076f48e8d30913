package audit

import (
	"notary/api"
	"notary/snap"
)

// place is where a client stands between two of its events.
type place int

const (
	between place = iota // calls
	begun
	sent
)

// client is what is known of a client by its events.
type client struct {
	program []api.Call
	call    int // the one in which it stands; between calls the next one
	place   place
	size    uint64 // that of the root which it has pinned
	floor   uint64 // that of the whole when its call began
}

// history is what is known behind the events so far.
type history struct {
	ledgers []*snap.Snap // that of each beginning of the log, by its size
	clients []client
	start   uint64              // the size with which the epoch began
	floor   uint64              // nothing that begins now may be answered from below it
	given   map[uint64]struct{} // the indices that Appends were answered
	pick    int                 // of the event ahead
}

func newHistory(programs [][]api.Call, ledgers []*snap.Snap, start uint64) *history {
	clients := make([]client, len(programs))
	for i, program := range programs {
		clients[i] = client{program: program, size: start}
	}
	return &history{ledgers: ledgers, clients: clients, start: start, floor: start, given: map[uint64]struct{}{}, pick: -1}
}

// ledgersOf answers the ledger of each beginning of the entries, from none to all.
func ledgersOf(w int, entries []api.Entry) ([]*snap.Snap, api.Errno) {
	s, e := snap.New(w)
	if e != api.OK {
		return nil, e
	}
	ledgers := []*snap.Snap{s}
	for i := range entries {
		s, e = s.Apply(api.Batch{First: s.Size(), Entries: entries[i : i+1]})
		if e != api.OK {
			return nil, e
		}
		ledgers = append(ledgers, s)
	}
	return ledgers, api.OK
}

// count answers how many entries the log has.
func (h *history) count() uint64 { return uint64(len(h.ledgers) - 1) }

// broken answers the rule that the next event breaks, and knows the event from then on, if it can come at all.
func (h *history) broken(event api.Event) int {
	rises := event.Pick >= 0 && event.Pick > h.pick
	h.pick = event.Pick
	switch {
	case !rises || !h.comes(event):
		return RuleShape
	case event.Actor == 0:
		return noRule
	}
	c := &h.clients[event.Actor-1]
	switch event.Kind {
	case api.EvBegin:
		c.place, c.floor = begun, h.floor
	case api.EvSend:
		c.place = sent
	case api.EvEnd:
		call := c.program[c.call]
		c.place, c.call = between, c.call+1
		return h.ended(c, call, event.Answer)
	}
	return noRule
}

// comes tells whether the event can come now, whatever it answers.
func (h *history) comes(event api.Event) bool {
	switch {
	case event.Actor == 0:
		return event.Kind >= api.EvTake && event.Kind <= api.EvCrash
	case event.Actor < 0 || event.Actor > len(h.clients):
		return false
	}
	return h.clients[event.Actor-1].comes(event)
}

func (c *client) comes(event api.Event) bool {
	if event.Call != c.call || c.call >= len(c.program) {
		return false
	}
	kind := c.program[c.call].Kind
	sends := kind == api.CallAppend || kind == api.CallClose
	switch event.Kind {
	case api.EvBegin:
		return c.place == between
	case api.EvSend:
		return c.place == begun && sends
	case api.EvEnd:
		return c.place == sent || c.place == begun && !(sends && event.Answer.E == api.OK)
	}
	return false
}

package shell

import (
	"notary/api"
	"notary/disk"
)

// set has a number of the world changed; once an epoch was played, none is.
func (s *Shell) set(number *int, to int) ([]string, api.Errno) {
	if len(s.script.Lives) > 0 {
		return nil, api.ErrExists
	}
	*number = to
	return nil, api.OK
}

func (s *Shell) setSector(v []value) ([]string, api.Errno) {
	return s.set(&s.script.Sector, v[0].number)
}

func (s *Shell) setWidth(v []value) ([]string, api.Errno) {
	return s.set(&s.script.Width, v[0].number)
}

func (s *Shell) setLimit(v []value) ([]string, api.Errno) {
	return s.set(&s.script.Limit, v[0].number)
}

func (s *Shell) setBatch(v []value) ([]string, api.Errno) {
	s.next.Plan.Config.Batch = v[0].number
	return nil, api.OK
}

func (s *Shell) setPlaces(v []value) ([]string, api.Errno) {
	s.next.Plan.Config.Places = v[0].number
	return nil, api.OK
}

// call has the client's program go on with the call.
func (s *Shell) call(client int, call api.Call) ([]string, api.Errno) {
	plan := &s.next.Plan
	for len(plan.Programs) < client {
		plan.Programs = append(plan.Programs, nil)
	}
	plan.Programs[client-1] = append(plan.Programs[client-1], call)
	return nil, api.OK
}

func (s *Shell) put(v []value) ([]string, api.Errno) {
	own := api.Entry{Kind: api.Put, Key: v[1].bytes, Value: v[2].bytes}
	return s.call(v[0].number, api.Call{Kind: api.CallAppend, Entry: own})
}

func (s *Shell) delete(v []value) ([]string, api.Errno) {
	own := api.Entry{Kind: api.Delete, Key: v[1].bytes}
	return s.call(v[0].number, api.Call{Kind: api.CallAppend, Entry: own})
}

func (s *Shell) pin(v []value) ([]string, api.Errno) {
	return s.call(v[0].number, api.Call{Kind: api.CallPin})
}

func (s *Shell) close(v []value) ([]string, api.Errno) {
	return s.call(v[0].number, api.Call{Kind: api.CallClose})
}

func (s *Shell) get(v []value) ([]string, api.Errno) {
	return s.call(v[0].number, api.Call{Kind: api.CallGet, Key: v[1].bytes})
}

func (s *Shell) key(v []value) ([]string, api.Errno) {
	return s.call(v[0].number, api.Call{Kind: api.CallKey, Key: v[1].bytes})
}

func (s *Shell) entry(v []value) ([]string, api.Errno) {
	return s.call(v[0].number, api.Call{Kind: api.CallEntry, N: uint64(v[1].number)})
}

func (s *Shell) since(v []value) ([]string, api.Errno) {
	return s.call(v[0].number, api.Call{Kind: api.CallSince, N: uint64(v[1].number)})
}

func (s *Shell) pick(v []value) ([]string, api.Errno) {
	for _, one := range v {
		s.next.Plan.Picks = append(s.next.Plan.Picks, one.number)
	}
	return nil, api.OK
}

func (s *Shell) calm([]value) ([]string, api.Errno) {
	s.next.Plan.Calm = true
	return nil, api.OK
}

func (s *Shell) refuse(v []value) ([]string, api.Errno) {
	s.next.Faults = append(s.next.Faults, disk.Fault{At: v[0].number, Keep: v[1].number})
	return nil, api.OK
}

func (s *Shell) crash(v []value) ([]string, api.Errno) {
	s.next.Crash = v[0].number
	return nil, api.OK
}

func (s *Shell) cut([]value) ([]string, api.Errno) {
	s.next.Cut = true
	return nil, api.OK
}

func (s *Shell) names(v []value) ([]string, api.Errno) {
	s.next.Fate.Names = v[0].number
	return nil, api.OK
}

func (s *Shell) keep(v []value) ([]string, api.Errno) { return s.leave(v, false) }

func (s *Shell) torn(v []value) ([]string, api.Errno) { return s.leave(v, true) }

// leave has the fate leave so many bytes of a file.
func (s *Shell) leave(v []value, torn bool) ([]string, api.Errno) {
	one := disk.Keep{Name: string(v[0].bytes), Bytes: v[1].number, Torn: torn}
	s.next.Fate.Keeps = append(s.next.Fate.Keeps, one)
	return nil, api.OK
}

func (s *Shell) reset([]value) ([]string, api.Errno) {
	*s = *New()
	return nil, api.OK
}

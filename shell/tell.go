package shell

import (
	"strconv"

	"notary/api"
	"notary/audit"
	"notary/digest"
	"notary/epoch"
	"notary/world"
)

// run plays what is laid up, and tells what happened.
func (s *Shell) run([]value) ([]string, api.Errno) {
	life := s.next
	s.script.Lives = append(s.script.Lives, life)
	s.next = lifeWith(life.Plan.Config)
	return reportLines(s.script.Width, life.Plan.Programs, lastOf(world.Run(s.script).Reports)), api.OK
}

// log tells the entries of the log.
func (s *Shell) log([]value) ([]string, api.Errno) {
	made := world.Run(s.script)
	if made.E != api.OK {
		return nil, made.E
	}
	var lines []string
	for _, e := range made.Entries {
		lines = append(lines, entryLine(e))
	}
	return lines, api.OK
}

// root tells the root of the log.
func (s *Shell) root([]value) ([]string, api.Errno) {
	made := world.Run(s.script)
	if made.E != api.OK {
		return nil, made.E
	}
	return []string{rootWords(s.script.Width, lastOf(made.Roots))}, api.OK
}

// audit tells what of the last epoch can't be so.
func (s *Shell) audit([]value) ([]string, api.Errno) {
	made := world.Run(s.script)
	if made.E != api.OK {
		return nil, made.E
	}
	if len(made.Reports) == 0 || lastOf(made.Reports).E != api.OK {
		return nil, api.ErrNone
	}
	programs := lastOf(s.script.Lives).Plan.Programs
	return findingLines(audit.Check(s.script.Width, programs, made.Entries, lastOf(made.Reports))), api.OK
}

// lastOf answers the last of a list that is not empty.
func lastOf[T any](list []T) T { return list[len(list)-1] }

func entryLine(e api.Entry) string {
	if e.Kind == api.Delete {
		return "delete " + told(e.Key)
	}
	return "put " + told(e.Key) + " " + told(e.Value)
}

func findingLines(found []audit.Finding) []string {
	if len(found) == 0 {
		return []string{"nothing"}
	}
	var lines []string
	for _, f := range found {
		lines = append(lines, strconv.Itoa(f.Event)+" "+strconv.Itoa(f.Rule))
	}
	return lines
}

// reportLines tells an epoch with these programs, at the width w.
func reportLines(w int, programs [][]api.Call, r epoch.Report) []string {
	if r.E != api.OK {
		return []string{"refused " + errorWord(r.E)}
	}
	var lines []string
	for _, event := range r.Events {
		head := strconv.Itoa(event.Pick) + " " + strconv.Itoa(event.Actor) + " "
		lines = append(lines, head+eventWords(w, programs, event))
	}
	return append(lines, "end "+rootWords(w, r.End)+" "+errorWord(r.State))
}

// eventWords tells an event without its pick and its actor.
func eventWords(w int, programs [][]api.Call, event api.Event) string {
	call, to, n := " "+strconv.Itoa(event.Call), " "+strconv.Itoa(event.To), " "+numberWord(event.N)
	switch event.Kind {
	case api.EvBegin:
		return "begin" + call
	case api.EvSend:
		return "send" + call
	case api.EvEnd:
		kind := programs[event.Actor-1][event.Call].Kind
		return "end" + call + " " + answerWords(w, kind, event.Answer)
	case api.EvTake:
		return "take" + to + n
	case api.EvWrite:
		return "write" + n
	case api.EvSync:
		return "sync"
	case api.EvPublish:
		return "publish" + n
	case api.EvReply:
		return "reply" + to + " " + answerWords(w, api.CallAppend, event.Answer)
	case api.EvFail:
		return "fail"
	case api.EvStop:
		return "stop"
	}
	return "crash"
}

// answerWords tells the answer to a call of that kind.
func answerWords(w int, kind byte, a api.Answer) string {
	if a.E != api.OK {
		return "error " + errorWord(a.E)
	}
	switch kind {
	case api.CallAppend:
		return "ok " + numberWord(a.Index)
	case api.CallPin:
		return "ok " + rootWords(w, a.Root)
	case api.CallGet:
		if !a.Present {
			return "none"
		}
		return "ok " + told(a.Value)
	case api.CallClose:
		return "ok"
	}
	return "ok " + hexOf(a.Receipt)
}

// rootWords tells a root: its size, and as much of its sealed digest as the width keeps.
func rootWords(w int, root api.Root) string {
	seal, _ := digest.Root(w, root) // can't be refused: the root is of the width
	return numberWord(root.Size) + " " + hexOf(seal[:w])
}

func errorWord(e api.Errno) string { return strconv.Itoa(int(e)) }

func numberWord(n uint64) string { return strconv.FormatUint(n, 10) }

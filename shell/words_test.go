package shell_test

import (
	"encoding/hex"
	"fmt"
	"math/rand"
	"net/url"
	"regexp"
	"slices"
	"strconv"
	"strings"
	"testing"

	"notary/api"
	"notary/audit"
	"notary/digest"
	"notary/disk"
	"notary/epoch"
	"notary/seqr"
	"notary/shell"
	"notary/world"
)

// grammar has for each command what stands behind it: n a number, t a text, c a client, s, w, l, b and p the numbers of the world and of the configuration; a + behind it: one or more.
func grammar() map[string]string {
	return map[string]string{
		"sector": "s", "width": "w", "limit": "l", "batch": "b", "places": "p",
		"put": "ctt", "delete": "ct", "pin": "c", "close": "c", "get": "ct", "key": "ct", "entry": "cn", "since": "cn",
		"pick": "n+", "calm": "", "refuse": "nn", "crash": "n", "cut": "", "names": "n", "keep": "tn", "torn": "tn",
		"run": "", "log": "", "root": "", "audit": "", "reset": "",
	}
}

// most answers the greatest number that may stand as such a word; 0: each may.
func most(kind byte) int {
	return map[byte]int{'s': 4096, 'w': 32, 'l': 1 << 20, 'b': 64, 'p': 64, 'c': 64}[kind]
}

var (
	isWord   = regexp.MustCompile(`[^ ]+`)
	isNumber = regexp.MustCompile(`^[0-9]{1,18}$`)
	isText   = regexp.MustCompile(`^(-|([^%]|%[0-9a-f][0-9a-f])+)$`)
)

// byWords is a shell as the chapter has it: it keeps the lines that were taken, and reads them all again at each line.
type byWords struct {
	taken []string
}

// laid answers the script of the epochs that were played, and what is laid up for the next one.
func (m *byWords) laid() (world.Script, world.Life) {
	s := world.Script{Sector: 64, Width: 32, Limit: 4096}
	config := seqr.Config{Batch: 4, Places: 4}
	var next world.Life
	calls := map[int][]api.Call{}
	for _, line := range m.taken {
		f := isWord.FindAllString(line, -1)
		number := func(i int) int {
			n, _ := strconv.Atoi(f[i])
			return n
		}
		text := func(i int) []byte {
			if f[i] == "-" {
				return nil
			}
			p, _ := url.PathUnescape(f[i])
			return []byte(p)
		}
		call := func(c api.Call) { calls[number(1)] = append(calls[number(1)], c) }
		switch f[0] {
		case "sector":
			s.Sector = number(1)
		case "width":
			s.Width = number(1)
		case "limit":
			s.Limit = number(1)
		case "batch":
			config.Batch = number(1)
		case "places":
			config.Places = number(1)
		case "put":
			call(api.Call{Kind: api.CallAppend, Entry: api.Entry{Kind: api.Put, Key: text(2), Value: text(3)}})
		case "delete":
			call(api.Call{Kind: api.CallAppend, Entry: api.Entry{Kind: api.Delete, Key: text(2)}})
		case "pin":
			call(api.Call{Kind: api.CallPin})
		case "close":
			call(api.Call{Kind: api.CallClose})
		case "get":
			call(api.Call{Kind: api.CallGet, Key: text(2)})
		case "key":
			call(api.Call{Kind: api.CallKey, Key: text(2)})
		case "entry":
			call(api.Call{Kind: api.CallEntry, N: uint64(number(2))})
		case "since":
			call(api.Call{Kind: api.CallSince, N: uint64(number(2))})
		case "pick":
			for i := 1; i < len(f); i++ {
				next.Plan.Picks = append(next.Plan.Picks, number(i))
			}
		case "calm":
			next.Plan.Calm = true
		case "refuse":
			next.Faults = append(next.Faults, disk.Fault{At: number(1), Keep: number(2)})
		case "crash":
			next.Crash = number(1)
		case "cut":
			next.Cut = true
		case "names":
			next.Fate.Names = number(1)
		case "keep", "torn":
			next.Fate.Keeps = append(next.Fate.Keeps, disk.Keep{Name: string(text(1)), Bytes: number(2), Torn: f[0] == "torn"})
		case "run":
			next.Plan.Config = config
			for client := 64; client > 0; client-- {
				if len(calls[client]) > 0 || next.Plan.Programs != nil {
					next.Plan.Programs = append([][]api.Call{calls[client]}, next.Plan.Programs...)
				}
			}
			s.Lives = append(s.Lives, next)
			next, calls = world.Life{}, map[int][]api.Call{}
		}
	}
	return s, next
}

func (m *byWords) line(text string) shell.Reply {
	if at, e := wordsFault(text); e != api.OK {
		return shell.Reply{At: at, E: e}
	}
	f := isWord.FindAllString(text, -1)
	if len(f) == 0 {
		return shell.Reply{}
	}
	s, _ := m.laid()
	switch f[0] {
	case "sector", "width", "limit":
		if len(s.Lives) > 0 {
			return shell.Reply{E: api.ErrExists}
		}
	case "audit":
		w := world.Run(s)
		if len(s.Lives) == 0 || w.Reports[len(s.Lives)-1].E != api.OK {
			return shell.Reply{E: api.ErrNone}
		}
		return shell.Reply{Lines: wordsAudit(s, w)}
	case "log":
		return shell.Reply{Lines: wordsLog(world.Run(s))}
	case "root":
		roots := world.Run(s).Roots
		return shell.Reply{Lines: []string{wordsRoot(s.Width, roots[len(roots)-1])}}
	case "reset":
		m.taken = nil
		return shell.Reply{}
	}
	m.taken = append(m.taken, text)
	if f[0] != "run" {
		return shell.Reply{}
	}
	s, _ = m.laid()
	n := len(s.Lives) - 1
	return shell.Reply{Lines: wordsRun(s.Width, s.Lives[n].Plan.Programs, world.Run(s).Reports[n])}
}

// wordsFault answers the fault of a line as far as the line alone tells it.
func wordsFault(text string) (int, api.Errno) {
	if len(text) > 400 {
		return 0, api.ErrLong
	}
	places := isWord.FindAllStringIndex(text, -1)
	if len(places) == 0 {
		return 0, api.OK
	}
	word := func(i int) string { return text[places[i][0]:places[i][1]] }
	kinds, known := grammar()[word(0)]
	if !known {
		return places[0][0], api.ErrName
	}
	if more, many := strings.CutSuffix(kinds, "+"); many {
		kinds = strings.Repeat(more, max(1, len(places)-1))
	}
	for i := 1; i < len(places); i++ {
		switch {
		case i > len(kinds), kinds[i-1] == 't' && !isText.MatchString(word(i)), kinds[i-1] != 't' && !isNumber.MatchString(word(i)):
			return places[i][0], api.ErrText
		}
	}
	if len(places)-1 < len(kinds) {
		return len(text), api.ErrText
	}
	for i := range kinds {
		if most := most(kinds[i]); most > 0 {
			if n, _ := strconv.Atoi(word(i + 1)); n < 1 || n > most {
				return places[i+1][0], api.ErrArg
			}
		}
	}
	return 0, api.OK
}

func wordsTold(p []byte) string {
	if len(p) == 0 {
		return "-"
	}
	word := ""
	for _, c := range p {
		if c == ' ' || c == '%' || c < 32 || c > 126 {
			word += fmt.Sprintf("%%%02x", c)
		} else {
			word += string(rune(c))
		}
	}
	if word == "-" {
		return "%2d"
	}
	return word
}

func wordsRoot(w int, root api.Root) string {
	seal, _ := digest.Root(w, root)
	return fmt.Sprintf("%d %s", root.Size, hex.EncodeToString(seal[:w]))
}

func wordsLog(w world.World) []string {
	var lines []string
	for _, e := range w.Entries {
		if e.Kind == api.Put {
			lines = append(lines, fmt.Sprintf("put %s %s", wordsTold(e.Key), wordsTold(e.Value)))
		} else {
			lines = append(lines, fmt.Sprintf("delete %s", wordsTold(e.Key)))
		}
	}
	return lines
}

func wordsAudit(s world.Script, w world.World) []string {
	var lines []string
	n := len(s.Lives) - 1
	for _, f := range audit.Check(s.Width, s.Lives[n].Plan.Programs, w.Entries, w.Reports[n]) {
		lines = append(lines, fmt.Sprintf("%d %d", f.Event, f.Rule))
	}
	if lines == nil {
		return []string{"nothing"}
	}
	return lines
}

func wordsRun(w int, programs [][]api.Call, r epoch.Report) []string {
	if r.E != api.OK {
		return []string{fmt.Sprintf("refused %d", r.E)}
	}
	var lines []string
	for _, v := range r.Events {
		names := []string{"", "begin", "send", "end", "take", "write", "sync", "publish", "reply", "fail", "stop", "crash"}
		line := fmt.Sprintf("%d %d %s", v.Pick, v.Actor, names[v.Kind])
		switch v.Kind {
		case api.EvBegin, api.EvSend:
			line += fmt.Sprintf(" %d", v.Call)
		case api.EvEnd:
			line += fmt.Sprintf(" %d %s", v.Call, wordsAnswer(w, programs[v.Actor-1][v.Call].Kind, v.Answer))
		case api.EvTake:
			line += fmt.Sprintf(" %d %d", v.To, v.N)
		case api.EvWrite, api.EvPublish:
			line += fmt.Sprintf(" %d", v.N)
		case api.EvReply:
			line += fmt.Sprintf(" %d %s", v.To, wordsAnswer(w, 1, v.Answer))
		}
		lines = append(lines, line)
	}
	return append(lines, fmt.Sprintf("end %s %d", wordsRoot(w, r.End), r.State))
}

func wordsAnswer(w int, kind byte, a api.Answer) string {
	switch {
	case a.E != api.OK:
		return fmt.Sprintf("error %d", a.E)
	case kind == api.CallAppend:
		return fmt.Sprintf("ok %d", a.Index)
	case kind == api.CallPin:
		return "ok " + wordsRoot(w, a.Root)
	case kind == api.CallGet && a.Present:
		return "ok " + wordsTold(a.Value)
	case kind == api.CallGet:
		return "none"
	case kind == api.CallClose:
		return "ok"
	}
	return "ok " + hex.EncodeToString(a.Receipt)
}

func sameReply(a, b shell.Reply) bool {
	return a.At == b.At && a.E == b.E && slices.Equal(a.Lines, b.Lines)
}

// anyNumber answers a number that fits now and then.
func anyNumber(r *rand.Rand, kind byte) string {
	if kind != 'n' && r.Intn(12) == 0 {
		return strconv.Itoa([]int{0, most(kind), most(kind) + 1}[r.Intn(3)])
	}
	switch kind {
	case 'c':
		return strconv.Itoa(1 + r.Intn(3))
	case 'l':
		return strconv.Itoa(1 + r.Intn(300))
	case 'n':
		return strconv.Itoa(r.Intn(14))
	}
	return strconv.Itoa(1 + r.Intn(32))
}

func anyText(r *rand.Rand) string {
	return []string{"a", "b", "c", "-", "%2d", "%25", "x%20y", "%00%ff", "seg-00000000000000000001", "seg-00000000000000000002", "\xc3\xa4", "\xff", strings.Repeat("k", 60+r.Intn(8))}[r.Intn(13)]
}

// anyLine answers a line that is mostly one that can be taken.
func anyLine(r *rand.Rand) string {
	names := strings.Fields("sector width limit batch places put put put put delete pin pin close get key entry since pick pick pick calm refuse crash cut names keep torn run run log root audit reset")
	name := names[r.Intn(len(names))]
	if name == "reset" && r.Intn(4) > 0 || name == "close" && r.Intn(2) > 0 {
		name = "calm"
	}
	kinds := grammar()[name]
	if one, many := strings.CutSuffix(kinds, "+"); many {
		kinds = strings.Repeat(one, 1+r.Intn(30))
	}
	words := []string{name}
	for i := range kinds {
		if kinds[i] == 't' {
			words = append(words, anyText(r))
		} else {
			words = append(words, anyNumber(r, kinds[i]))
		}
	}
	if r.Intn(8) == 0 {
		spoil(r, &words)
	}
	return strings.Join(words, strings.Repeat(" ", 1+r.Intn(20)/19))
}

// spoil makes a fault of some kind, or a blank more.
func spoil(r *rand.Rand, words *[]string) {
	list := *words
	i := r.Intn(len(list))
	switch r.Intn(7) {
	case 0:
		list[i] += " "
	case 1:
		list[i] = " " + list[i]
	case 2:
		*words = list[:i]
	case 3:
		*words = append(list, "1")
	case 4:
		list[i] = []string{"%", "%4", "%4g", "%4A", "-1", "+1", "1.0", "", "1234567890123456789", "\t", "PUT", "%%41", "0x1", "--"}[r.Intn(14)]
	case 5:
		list[i] += "\t"
	case 6:
		list[i] += strings.Repeat("9", 400)
	}
}

// The chapter's words, written a second time, against the shell, line by line.
func TestP28_Words(t *testing.T) {
	seen := map[api.Errno]int{}
	told := map[string]int{}
	for seed := range int64(250) {
		r := rand.New(rand.NewSource(seed))
		s, words := shell.New(), &byWords{}
		for range 60 {
			text := anyLine(r)
			got, want := s.Line(text), words.line(text)
			if !sameReply(got, want) {
				t.Fatalf("%d: %q: %v, want %v; ahead of it %q", seed, text, got, want, words.taken)
			}
			seen[got.E]++
			for _, line := range got.Lines {
				for _, w := range strings.Fields(line) {
					told[w]++
				}
			}
		}
	}
	for _, e := range []api.Errno{api.OK, api.ErrArg, api.ErrLong, api.ErrNone, api.ErrExists, api.ErrText, api.ErrName} {
		if seen[e] < 50 {
			t.Errorf("the error %d came %d times alone", e, seen[e])
		}
	}
	for _, word := range strings.Fields("begin send end take write sync publish reply fail stop crash error ok none refused put delete nothing - %00%ff %2d %25") {
		if told[word] < 5 {
			t.Errorf("the word %s was told %d times alone", word, told[word])
		}
	}
}

// A whole text: the same lines, one behind the other.
func TestP28_8_Words(t *testing.T) {
	for seed := range int64(60) {
		r := rand.New(rand.NewSource(seed))
		words := &byWords{}
		var lines []string
		var want []shell.Reply
		for range r.Intn(40) {
			lines = append(lines, anyLine(r))
			if r.Intn(10) == 0 {
				lines = append(lines, "")
			}
		}
		for _, line := range lines {
			want = append(want, words.line(line))
		}
		text := strings.Join(lines, "\n")
		if n := len(lines); n > 0 && lines[n-1] == "" || r.Intn(2) == 0 && n > 0 {
			text += "\n"
		}
		if got := shell.Run(text); !slices.EqualFunc(got, want, sameReply) {
			t.Fatalf("%d: %v, want %v", seed, got, want)
		}
	}
}

// No line makes a shell panic, and beside an error there are no lines.
func FuzzLine(f *testing.F) {
	r := rand.New(rand.NewSource(1))
	for range 60 {
		var lines []string
		for range 10 {
			lines = append(lines, anyLine(r))
		}
		f.Add(strings.Join(lines, "\n"))
	}
	f.Add("pick 999999999999999999\nput 64 a b\ncalm\nrun\naudit")
	f.Fuzz(func(t *testing.T, text string) {
		if len(text) > 2000 {
			t.Skip()
		}
		words := &byWords{}
		replies := shell.Run(text)
		lines := strings.Split(text, "\n")
		for i, got := range replies {
			if want := words.line(lines[i]); !sameReply(got, want) {
				t.Fatalf("%q: %v, want %v", lines[i], got, want)
			}
		}
	})
}

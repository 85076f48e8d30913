package audit_test

import (
	"bytes"
	"math"
	"runtime"
	"slices"
	"strconv"
	"strings"
	"sync"
	"testing"
	"time"

	"notary/api"
	"notary/audit"
	"notary/clash"
	"notary/digest"
	"notary/disk"
	"notary/entry"
	"notary/epoch"
	"notary/proof"
	"notary/seqr"
	"notary/snap"
)

const width = 4

// grown answers the ledgers of all beginnings of the entries, each entry in a batch of its own.
func grown(t testing.TB, w int, entries ...api.Entry) []*snap.Snap {
	t.Helper()
	s, e := snap.New(w)
	all := []*snap.Snap{s}
	for i := range entries {
		s, e = s.Apply(api.Batch{First: s.Size(), Entries: entries[i : i+1]})
		if e != api.OK {
			t.Fatalf("Apply: %d", e)
		}
		all = append(all, s)
	}
	if e != api.OK {
		t.Fatalf("New: %d", e)
	}
	return all
}

func begin(actor, call int) api.Event {
	return api.Event{Actor: actor, Kind: api.EvBegin, Call: call}
}

func send(actor, call int) api.Event { return api.Event{Actor: actor, Kind: api.EvSend, Call: call} }

func end(actor, call int, a api.Answer) api.Event {
	return api.Event{Actor: actor, Kind: api.EvEnd, Call: call, Answer: a}
}

// whole answers the events of an Append that was answered the index.
func whole(actor, call int, index uint64) []api.Event {
	return []api.Event{begin(actor, call), send(actor, call), end(actor, call, api.Answer{Index: index})}
}

// read answers the events of a call that is no Append and no Close.
func read(actor, call int, a api.Answer) []api.Event {
	return []api.Event{begin(actor, call), end(actor, call, a)}
}

// inOrder gives the events picks that rise.
func inOrder(events ...[]api.Event) []api.Event {
	all := slices.Concat(events...)
	for i := range all {
		all[i].Pick = 3 * i
	}
	return all
}

func (h history) want(t testing.TB, what string, want ...audit.Finding) {
	t.Helper()
	if got := h.check(); !slices.Equal(got, want) {
		t.Errorf("%s: %v, want %v", what, got, want)
	}
}

func finding(event, rule int) audit.Finding { return audit.Finding{Event: event, Rule: rule} }

func report(start uint64, events []api.Event) epoch.Report {
	return epoch.Report{Start: api.Root{Size: start}, Events: events}
}

func call(kind byte) api.Call { return api.Call{Kind: kind} }

func gets(key string) api.Call { return api.Call{Kind: api.CallGet, Key: []byte(key)} }

// shapes answers a history of two clients over a log that is known to have the entry a.
func shapes(events ...api.Event) history {
	programs := [][]api.Call{{appends(put("a", "1")), call(api.CallPin)}, {call(api.CallClose), call(9)}}
	return history{width, programs, []api.Entry{put("a", "1")}, report(0, events)}
}

func TestP27_1_Picks(t *testing.T) {
	for _, c := range []struct {
		picks  []int
		broken []int
	}{
		{nil, nil}, {[]int{0}, nil}, {[]int{7}, nil}, {[]int{math.MaxInt}, nil}, {[]int{-1}, []int{0}}, {[]int{math.MinInt}, []int{0}},
		{[]int{0, 1, 2}, nil}, {[]int{0, 5, 900}, nil}, {[]int{3, 3}, []int{1}}, {[]int{3, 2}, []int{1}}, {[]int{3, 3, 4}, []int{1}},
		{[]int{5, 3, 4}, []int{1}}, {[]int{5, 3, 4, 4, 3}, []int{1, 3, 4}}, {[]int{-3, -2, -1, 0, 1}, []int{0, 1, 2}}, {[]int{4, -1, 0}, []int{1}}, {[]int{math.MaxInt, math.MinInt, 0}, []int{1}},
	} {
		var events []api.Event
		for _, pick := range c.picks {
			events = append(events, api.Event{Pick: pick, Kind: api.EvTake})
		}
		var want []audit.Finding
		for _, i := range c.broken {
			want = append(want, finding(i, audit.RuleShape))
		}
		shapes(events...).want(t, "picks", want...)
	}
}

// A pick has to be above that of the event ahead of it, also where that one breaks a rule for another reason.
func TestP27_1_PicksBehindABrokenOne(t *testing.T) {
	nobody := api.Event{Pick: 9, Actor: 3, Kind: api.EvTake}
	take := func(pick int) api.Event { return api.Event{Pick: pick, Kind: api.EvTake} }
	shapes(take(5), nobody, take(7)).want(t, "below", finding(1, 5), finding(2, 5))
	shapes(take(5), nobody, take(9)).want(t, "the same", finding(1, 5), finding(2, 5))
	shapes(take(5), nobody, take(10)).want(t, "above", finding(1, 5))
}

func TestP27_1_ActorsAndKinds(t *testing.T) {
	for kind := range 256 {
		var want []audit.Finding
		if kind < 4 || kind > 11 {
			want = []audit.Finding{finding(0, 5)}
		}
		shapes(api.Event{Kind: byte(kind)}).want(t, "the sequencer's "+strconv.Itoa(kind), want...)
		want = []audit.Finding{finding(0, 5)}
		if kind == 1 {
			want = nil
		}
		for actor := 1; actor <= 2; actor++ {
			shapes(api.Event{Actor: actor, Kind: byte(kind)}).want(t, "a client's "+strconv.Itoa(kind), want...)
		}
		for _, actor := range []int{3, -1, math.MaxInt, math.MinInt, 65} {
			shapes(api.Event{Actor: actor, Kind: byte(kind)}).want(t, "nobody's "+strconv.Itoa(kind), finding(0, 5))
		}
	}
	none := history{width, nil, nil, report(0, []api.Event{begin(1, 0)})}
	none.want(t, "no programs", finding(0, 5))
	empty := history{width, [][]api.Call{nil, {}}, nil, report(0, inOrder([]api.Event{begin(1, 0), begin(2, 0)}))}
	empty.want(t, "empty programs", finding(0, 5), finding(1, 5))
}

// A program may be that of an actor beyond MaxClients.
func TestP27_1_ManyPrograms(t *testing.T) {
	programs := make([][]api.Call, 300)
	programs[299] = []api.Call{call(api.CallClose)}
	history{width, programs, nil, report(0, inOrder([]api.Event{begin(300, 0), begin(301, 0), begin(299, 0)}))}.want(t, "300", finding(1, 5), finding(2, 5))
}

func TestP27_1_Calls(t *testing.T) {
	for _, n := range []int{-1, 1, 2, math.MaxInt, math.MinInt} {
		shapes(begin(1, n)).want(t, "another call begins", finding(0, 5))
		shapes(inOrder([]api.Event{begin(1, 0), send(1, n), send(1, 0), end(1, n, api.Answer{}), end(1, 0, api.Answer{})})...).want(t, "another call goes on", finding(1, 5), finding(3, 5))
	}
	all := inOrder(whole(1, 0, 0), read(1, 1, api.Answer{Root: grown(t, width, put("a", "1"))[1].Root()}))
	shapes(all...).want(t, "the whole program")
	for _, kind := range []byte{api.EvBegin, api.EvSend, api.EvEnd} {
		for _, n := range []int{0, 1, 2} {
			shapes(append(slices.Clone(all), api.Event{Pick: 99, Actor: 1, Kind: kind, Call: n})...).want(t, "behind its program", finding(5, 5))
		}
	}
}

// Where each event of a client may come; an event that may not come changes nothing.
func TestP27_1_Places(t *testing.T) {
	ok, failed := api.Answer{}, api.Answer{E: api.ErrFailed}
	for _, c := range []struct {
		what   string
		events []api.Event
		want   []audit.Finding
	}{
		{"begun twice", []api.Event{begin(1, 0), begin(1, 0), send(1, 0), begin(1, 0), end(1, 0, ok), begin(1, 1)}, []audit.Finding{finding(1, 5), finding(3, 5)}},
		{"sent without a beginning", []api.Event{send(1, 0), begin(1, 0), send(1, 0)}, []audit.Finding{finding(0, 5)}},
		{"sent twice", []api.Event{begin(1, 0), send(1, 0), send(1, 0), end(1, 0, ok)}, []audit.Finding{finding(2, 5)}},
		{"ended without a beginning", []api.Event{end(1, 0, ok), end(1, 0, failed), begin(1, 0)}, []audit.Finding{finding(0, 5), finding(1, 5)}},
		{"ended OK and not sent", []api.Event{begin(1, 0), end(1, 0, ok), send(1, 0), end(1, 0, ok)}, []audit.Finding{finding(1, 5)}},
		{"ended with an error and not sent", []api.Event{begin(1, 0), end(1, 0, failed), begin(1, 1)}, nil},
		{"ended with an error and sent", []api.Event{begin(1, 0), send(1, 0), end(1, 0, failed), begin(1, 1)}, nil},
		{"ended twice", []api.Event{begin(1, 0), send(1, 0), end(1, 0, ok), end(1, 0, ok), end(1, 1, ok), begin(1, 1)}, []audit.Finding{finding(3, 5), finding(4, 5)}},
		{"a Close", []api.Event{begin(2, 0), send(2, 0), end(2, 0, ok), begin(2, 1), end(2, 1, api.Answer{E: api.ErrArg})}, nil},
		{"a Close not sent", []api.Event{begin(2, 0), end(2, 0, ok), send(2, 0), end(2, 0, ok)}, []audit.Finding{finding(1, 5)}},
		{"a Close refused", []api.Event{begin(2, 0), end(2, 0, api.Answer{E: api.ErrClosed}), begin(2, 1)}, nil},
		{"the next call has not been sent", []api.Event{begin(2, 0), send(2, 0), end(2, 0, ok), begin(2, 1), send(2, 1)}, []audit.Finding{finding(4, 5)}},
		{"two clients", []api.Event{begin(1, 0), begin(2, 0), send(2, 0), send(1, 0), end(2, 0, ok), end(1, 0, ok)}, nil},
	} {
		shapes(inOrder(c.events)...).want(t, c.what, c.want...)
	}
}

// Of which kinds of calls there is an EvSend, and which of them need it to end with OK.
func TestP27_1_Sends(t *testing.T) {
	s := grown(t, width)[0]
	for kind := range 256 {
		h := history{width, [][]api.Call{{{Kind: byte(kind), Entry: put("a", "1"), N: 1}}}, []api.Entry{put("a", "1")}, epoch.Report{}}
		sends := kind == int(api.CallAppend) || kind == int(api.CallClose)
		h.report.Events = inOrder([]api.Event{begin(1, 0), send(1, 0)})
		if got := h.check(); (len(got) == 0) != sends || !sends && got[0] != finding(1, 5) {
			t.Errorf("the kind %d, sent: %v", kind, got)
		}
		h.report.Events = inOrder(read(1, 0, api.Answer{Root: s.Root()}))
		if got := h.check(); slices.Contains(got, finding(1, 5)) != sends {
			t.Errorf("the kind %d, not sent: %v", kind, got)
		}
		h.report.Events[1].Answer.E = api.ErrText
		if got := h.check(); slices.Contains(got, finding(1, 5)) {
			t.Errorf("the kind %d, not sent and refused: %v", kind, got)
		}
	}
}

// orders answers a history of three clients with Appends of a to f, over a log of a to f of which so many stood there when it began.
func orders(start uint64, events ...[]api.Event) history {
	var all []api.Entry
	var program []api.Call
	for _, key := range strings.Split("abcdef", "") {
		all = append(all, put(key, "v"))
		program = append(program, appends(put(key, "v")), call(api.CallPin))
	}
	return history{width, [][]api.Call{program, program, program}, all, report(start, inOrder(events...))}
}

func TestP27_1_Order(t *testing.T) {
	of := func(keys string) [][]api.Call {
		var programs [][]api.Call
		for _, key := range strings.Split(keys, "") {
			programs = append(programs, []api.Call{appends(put(key, "v"))})
		}
		return programs
	}
	for _, c := range []struct {
		what, keys string // the client i + 1 appends keys[i]
		start      uint64
		events     [][]api.Event
		want       []audit.Finding
	}{
		{"in order", "abc", 0, [][]api.Event{whole(1, 0, 0), whole(2, 0, 1), whole(3, 0, 2)}, nil},
		{"with gaps", "ce", 0, [][]api.Event{whole(1, 0, 2), whole(2, 0, 4)}, nil},
		{"the last one", "f", 0, [][]api.Event{whole(1, 0, 5)}, nil},
		{"at the size with which it began", "c", 2, [][]api.Event{whole(1, 0, 2)}, nil},
		{"below it", "b", 2, [][]api.Event{whole(1, 0, 1)}, []audit.Finding{finding(2, 1)}},
		{"the count", "a", 0, [][]api.Event{whole(1, 0, 6)}, []audit.Finding{finding(2, 1)}},
		{"far beyond", "a", 0, [][]api.Event{whole(1, 0, math.MaxUint64)}, []audit.Finding{finding(2, 1)}},
		{"another entry's", "a", 0, [][]api.Event{whole(1, 0, 1)}, []audit.Finding{finding(2, 1)}},
		{"twice", "aa", 0, [][]api.Event{{begin(1, 0), begin(2, 0), send(1, 0), send(2, 0), end(1, 0, api.Answer{}), end(2, 0, api.Answer{})}}, []audit.Finding{finding(5, 1)}},
		{"behind the end of a later one", "fc", 0, [][]api.Event{whole(1, 0, 5), whole(2, 0, 2)}, []audit.Finding{finding(5, 1)}},
		{"begun ahead of the end of a later one", "fc", 0, [][]api.Event{{begin(2, 0)}, whole(1, 0, 5), {send(2, 0), end(2, 0, api.Answer{Index: 2})}}, nil},
		{"sent behind the end of a later one", "ba", 0, [][]api.Event{{begin(2, 0)}, whole(1, 0, 1), {send(2, 0), end(2, 0, api.Answer{Index: 0})}}, nil},
		{"behind the end of one that broke a rule", "ac", 0, [][]api.Event{whole(1, 0, 4), whole(2, 0, 2)}, []audit.Finding{finding(2, 1), finding(5, 1)}},
		{"behind the end of one far beyond", "ac", 0, [][]api.Event{whole(1, 0, 6), whole(2, 0, 2)}, []audit.Finding{finding(2, 1)}},
		{"behind the end of one below the beginning", "ac", 2, [][]api.Event{whole(1, 0, 0), whole(2, 0, 2)}, []audit.Finding{finding(2, 1)}},
		{"that of one that broke a rule", "ac", 0, [][]api.Event{{begin(2, 0)}, whole(1, 0, 2), {send(2, 0), end(2, 0, api.Answer{Index: 2})}}, []audit.Finding{finding(3, 1), finding(5, 1)}},
		{"that of one that may not come", "cc", 0, [][]api.Event{{begin(2, 0), begin(1, 0), end(1, 0, api.Answer{Index: 2}), send(2, 0), end(2, 0, api.Answer{Index: 2})}}, []audit.Finding{finding(2, 5)}},
		{"that of one that was refused", "cc", 0, [][]api.Event{{begin(1, 0), end(1, 0, api.Answer{E: api.ErrFailed, Index: 2})}, whole(2, 0, 2)}, nil},
		{"behind one that was refused", "fa", 0, [][]api.Event{{begin(1, 0), send(1, 0), end(1, 0, api.Answer{E: api.ErrClosed, Index: 5})}, whole(2, 0, 0)}, nil},
		{"the log is shorter than it was at the beginning", "g", 7, [][]api.Event{whole(1, 0, 7)}, []audit.Finding{finding(2, 1)}},
	} {
		h := orders(c.start, c.events...)
		h.programs = of(c.keys)
		h.want(t, c.what, c.want...)
	}
}

// The entry at the index has to be the call's by its kind, its key and its value; nil and empty are the same.
func TestP27_1_OrderEntry(t *testing.T) {
	for _, c := range []struct {
		there, own api.Entry
		alike      bool
	}{
		{put("k", "v"), put("k", "v"), true}, {put("k", "v"), put("k", "w"), false}, {put("k", "v"), put("l", "v"), false}, {put("k", ""), del("k"), false}, {del("k"), del("k"), true},
		{put("", ""), api.Entry{Kind: api.Put}, true}, {api.Entry{Kind: api.Delete}, api.Entry{Kind: api.Delete, Key: []byte{}, Value: []byte{}}, true}, {put("kv", ""), put("k", "v"), false}, {put("k", "v"), api.Entry{Kind: 7, Key: []byte("k"), Value: []byte("v")}, false},
	} {
		h := history{width, [][]api.Call{{appends(c.own)}}, []api.Entry{c.there}, report(0, inOrder(whole(1, 0, 0)))}
		if got := h.check(); (len(got) == 0) != c.alike {
			t.Errorf("%v stands there, %v was appended: %v", c.there, c.own, got)
		}
	}
}

// Whatever an Append that did not end with OK tells, no rule is broken.
func TestP27_1_AppendRefused(t *testing.T) {
	for e := api.Errno(-1); e < 20; e++ {
		if e == api.OK {
			continue
		}
		h := orders(0, []api.Event{begin(1, 0), end(1, 0, api.Answer{E: e, Index: 77, Value: []byte("x"), Present: true, Receipt: []byte{1}})})
		h.want(t, "refused")
	}
}

func TestP27_1_Pin(t *testing.T) {
	h := orders(0)
	s := grown(t, width, h.entries...)
	root := func(n int) api.Answer { return api.Answer{Root: s[n].Root()} }
	pins := [][]api.Call{{call(api.CallPin), call(api.CallPin), call(api.CallPin)}, {call(api.CallPin), call(api.CallPin)}, {appends(put("c", "v")), call(api.CallPin)}}
	turned := func(n int, turn func(*api.Answer)) api.Answer {
		a := root(n)
		turn(&a)
		return a
	}
	for _, c := range []struct {
		what   string
		start  uint64
		events [][]api.Event
		want   []audit.Finding
	}{
		{"each size", 0, [][]api.Event{read(1, 0, root(0)), read(1, 1, root(3)), read(1, 2, root(6))}, nil},
		{"the same once more", 0, [][]api.Event{read(1, 0, root(2)), read(1, 1, root(2)), read(2, 0, root(2))}, nil},
		{"at the beginning", 2, [][]api.Event{read(1, 0, root(2))}, nil},
		{"below the beginning", 2, [][]api.Event{read(1, 0, root(1))}, []audit.Finding{finding(1, 2)}},
		{"going back", 0, [][]api.Event{read(1, 0, root(3)), read(1, 1, root(2))}, []audit.Finding{finding(3, 2)}},
		{"behind another's", 0, [][]api.Event{read(1, 0, root(3)), read(2, 0, root(2))}, []audit.Finding{finding(3, 2)}},
		{"begun ahead of another's end", 0, [][]api.Event{{begin(2, 0)}, read(1, 0, root(3)), {end(2, 0, root(2))}}, nil},
		{"an Append's index", 0, [][]api.Event{whole(3, 0, 2), read(1, 0, root(2))}, []audit.Finding{finding(4, 2)}},
		{"above an Append's index", 0, [][]api.Event{whole(3, 0, 2), read(1, 0, root(3))}, nil},
		{"begun ahead of an Append's end", 0, [][]api.Event{{begin(1, 0)}, whole(3, 0, 2), {end(1, 0, root(1))}}, nil},
		{"an Append behind it", 0, [][]api.Event{read(1, 0, root(3)), whole(3, 0, 2)}, []audit.Finding{finding(4, 1)}},
		{"an Append at its size", 0, [][]api.Event{read(1, 0, root(2)), whole(3, 0, 2)}, nil},
		{"an error", 0, [][]api.Event{read(1, 0, turned(2, func(a *api.Answer) { a.E = api.ErrFailed }))}, []audit.Finding{finding(1, 2)}},
		{"another log", 0, [][]api.Event{read(1, 0, turned(2, func(a *api.Answer) { a.Root.Log[0]++ }))}, []audit.Finding{finding(1, 2)}},
		{"another map", 0, [][]api.Event{read(1, 0, turned(2, func(a *api.Answer) { a.Root.Map[3]++ }))}, []audit.Finding{finding(1, 2)}},
		{"behind the width", 0, [][]api.Event{read(1, 0, turned(2, func(a *api.Answer) { a.Root.Map[4]++ }))}, []audit.Finding{finding(1, 2)}},
		{"another size", 0, [][]api.Event{read(1, 0, turned(2, func(a *api.Answer) { a.Root.Size++ }))}, []audit.Finding{finding(1, 2)}},
		{"the count and one", 0, [][]api.Event{read(1, 0, turned(6, func(a *api.Answer) { a.Root.Size++ }))}, []audit.Finding{finding(1, 2)}},
		{"far beyond", 0, [][]api.Event{read(1, 0, turned(6, func(a *api.Answer) { a.Root.Size = math.MaxUint64 })), read(1, 1, root(0))}, []audit.Finding{finding(1, 2)}},
		{"behind one that broke a rule", 0, [][]api.Event{read(1, 0, turned(3, func(a *api.Answer) { a.Root.Log[0]++ })), read(2, 0, root(2)), read(2, 1, root(3))}, []audit.Finding{finding(1, 2), finding(3, 2)}},
		{"behind one with an error", 0, [][]api.Event{read(1, 0, turned(3, func(a *api.Answer) { a.E = api.ErrIO })), read(2, 0, root(2))}, []audit.Finding{finding(1, 2), finding(3, 2)}},
		{"behind one that went back", 0, [][]api.Event{read(1, 0, root(4)), read(1, 1, root(2)), read(1, 2, root(3))}, []audit.Finding{finding(3, 2), finding(5, 2)}},
		{"the log is shorter than it was at the beginning", 7, [][]api.Event{read(1, 0, root(6))}, []audit.Finding{finding(1, 2)}},
		{"other fields", 0, [][]api.Event{read(1, 0, api.Answer{Root: s[1].Root(), Index: 7, Value: []byte("x"), Present: true, Receipt: []byte{1}})}, nil},
	} {
		h := orders(c.start, c.events...)
		h.programs = pins
		h.want(t, c.what, c.want...)
	}
}

// The size of which a client's reads are: that with which the epoch began, then that of its Pin, also of one that broke a rule; another one's Pin makes no difference.
func TestP27_1_ClientsSize(t *testing.T) {
	h := orders(0)
	s := grown(t, width, h.entries...)
	has := func(yes bool) api.Answer {
		if yes {
			return api.Answer{Value: []byte("v"), Present: true}
		}
		return api.Answer{}
	}
	pin, turned, refused, beyond := api.Answer{Root: s[4].Root()}, api.Answer{Root: s[4].Root()}, api.Answer{E: api.ErrFailed, Root: s[4].Root()}, api.Answer{Root: s[4].Root()}
	turned.Root.Map[0]++
	beyond.Root.Size = 7
	for _, c := range []struct {
		what  string
		start uint64
		pin   api.Answer
		actor int // who pins
		size  int // of which the client 1 reads then
		right bool
	}{
		{"a Pin", 0, pin, 1, 4, true}, {"a Pin of another root", 0, turned, 1, 4, false}, {"a Pin with an error", 0, refused, 1, 4, false}, {"a Pin beyond the log", 0, beyond, 1, 0, false}, {"a Pin beyond the log, and a log ahead", 2, beyond, 1, 2, false},
		{"another one's Pin", 0, pin, 2, 0, true}, {"another one's Pin, and a log ahead", 3, pin, 2, 3, true}, {"no more than there was", 4, pin, 1, 4, true}, {"a Pin that goes back", 5, pin, 1, 4, false}, {"a Pin with an error and no root", 3, api.Answer{E: api.ErrIO}, 1, 0, false},
	} {
		for at, key := range strings.Split("abcdef", "") {
			program := []api.Call{call(api.CallPin), gets(key)}
			h.programs = [][]api.Call{program, program}
			events := [][]api.Event{read(c.actor, 0, c.pin)}
			if c.actor != 1 {
				h.programs[0] = program[1:]
				events = append(events, read(1, 0, has(at < c.size)), read(2, 1, has(at < 4)))
			} else {
				events = append(events, read(1, 1, has(at < c.size)))
			}
			h.report = report(c.start, inOrder(events...))
			var want []audit.Finding
			if !c.right {
				want = append(want, finding(1, 2))
			}
			h.want(t, c.what, want...)
			h.report.Events[3].Answer = has(at >= c.size)
			h.want(t, c.what+", and a wrong read", append(want, finding(3, 3))...)
		}
	}
}

func TestP27_1_Read(t *testing.T) {
	entries := []api.Entry{put("a", "1"), put("b", ""), put("c", "3"), del("c"), put("a", "2"), put(strings.Repeat("k", 64), "long")}
	right := func(key, value string, present bool) api.Answer {
		return api.Answer{Value: []byte(value), Present: present}
	}
	long := strings.Repeat("k", 65)
	for _, c := range []struct {
		key    string
		start  uint64
		a      api.Answer
		broken bool
	}{
		{"a", 6, right("a", "2", true), false}, {"a", 4, right("a", "1", true), false}, {"a", 4, right("a", "2", true), true}, {"a", 0, api.Answer{}, false}, {"a", 0, right("a", "1", true), true}, {"a", 6, api.Answer{}, true}, {"a", 6, right("a", "2", false), true}, {"a", 6, right("a", "", true), true},
		{"b", 6, right("b", "", true), false}, {"b", 6, api.Answer{Present: true}, false}, {"b", 6, api.Answer{}, true}, {"b", 6, right("b", "x", true), true},
		{"c", 3, right("c", "3", true), false}, {"c", 4, api.Answer{}, false}, {"c", 4, right("c", "3", true), true}, {"c", 4, right("c", "3", false), true}, {"c", 4, api.Answer{Present: true}, true},
		{"d", 6, api.Answer{}, false}, {"d", 6, api.Answer{Value: []byte{}}, false}, {"", 6, api.Answer{}, false}, {"d", 6, api.Answer{Value: []byte("x")}, true},
		{long[:64], 6, right("", "long", true), false}, {long[:64], 6, api.Answer{E: api.ErrLong}, true}, {long, 6, api.Answer{E: api.ErrLong}, false}, {long, 6, api.Answer{}, true}, {long, 6, api.Answer{E: api.ErrLong, Present: true}, true}, {long, 6, api.Answer{E: api.ErrLong, Value: []byte("x")}, true}, {long, 6, api.Answer{E: api.ErrArg}, true},
		{"a", 6, api.Answer{Value: []byte("2"), Present: true, Index: 5, Root: api.Root{Size: 9}, Receipt: []byte{1}}, false},
	} {
		h := history{width, [][]api.Call{{gets(c.key)}}, entries, report(c.start, inOrder(read(1, 0, c.a)))}
		if got := h.check(); (len(got) > 0) != c.broken || c.broken && !slices.Equal(got, []audit.Finding{finding(1, audit.RuleRead)}) {
			t.Errorf("%q of the size %d, answered %v: %v", c.key, c.start, c.a, got)
		}
	}
	for e := api.Errno(-1); e < 16; e++ {
		h := history{width, [][]api.Call{{gets("d")}}, entries, report(6, inOrder(read(1, 0, api.Answer{E: e})))}
		if got := h.check(); (len(got) == 0) != (e == api.OK) {
			t.Errorf("a read with the error %d: %v", e, got)
		}
	}
}

// Of a call of a kind that is none E alone is looked at.
func TestP27_1_NoKind(t *testing.T) {
	for kind := range 256 {
		if kind >= 1 && kind <= 7 {
			continue
		}
		for e := api.Errno(-1); e < 16; e++ {
			for _, start := range []uint64{0, 9} {
				h := history{width, [][]api.Call{{{Kind: byte(kind), Key: make([]byte, 65), N: 5}}}, nil, report(start, inOrder(read(1, 0, api.Answer{E: e})))}
				if e == api.ErrArg {
					h.want(t, "no kind")
				} else {
					h.want(t, "no kind", finding(1, audit.RuleRead))
				}
			}
		}
	}
}

// receiptOf answers what the ledger answers to a call for a receipt.
func receiptOf(s *snap.Snap, c api.Call) (a api.Answer) {
	switch c.Kind {
	case api.CallEntry:
		a.Receipt, a.E = s.ReceiptEntry(c.N)
	case api.CallKey:
		a.Receipt, a.E = s.ReceiptKey(c.Key)
	case api.CallSince:
		a.Receipt, a.E = s.ReceiptSince(c.N)
	}
	return a
}

func receiptCalls() []api.Call {
	var calls []api.Call
	for _, n := range []uint64{0, 1, 2, 3, 4, 5, 6, 7, math.MaxUint64} {
		calls = append(calls, api.Call{Kind: api.CallEntry, N: n}, api.Call{Kind: api.CallSince, N: n})
	}
	for _, key := range []string{"a", "c", "f", "x", "", strings.Repeat("k", 64), strings.Repeat("k", 65)} {
		calls = append(calls, api.Call{Kind: api.CallKey, Key: []byte(key)})
	}
	return calls
}

// Each call for a receipt, of each size: what another size's ledger, another call's receipt or another error would answer is right only where it is the same, or an ErrNone of a beginning.
func TestP27_1_Receipt(t *testing.T) {
	h := orders(0)
	s := grown(t, width, h.entries...)
	calls := receiptCalls()
	for n := range s {
		for _, c := range calls {
			h.programs, h.report = [][]api.Call{{c}}, report(uint64(n), inOrder(read(1, 0, receiptOf(s[n], c))))
			h.want(t, "the right receipt")
			right := h.report.Events[1].Answer
			for m := range s {
				for _, d := range calls {
					a := receiptOf(s[m], d)
					h.report.Events[1].Answer = a
					same := a.E == right.E && (m == n && d.Kind == c.Kind && d.N == c.N && bytes.Equal(d.Key, c.Key) || a.E != api.OK)
					if got := h.check(); (len(got) == 0) != same || !same && !slices.Equal(got, []audit.Finding{finding(1, audit.RuleReceipt)}) {
						t.Errorf("of the size %d, %v: that of the size %d, %v: %v", n, c, m, d, got)
					}
				}
			}
			for e := api.Errno(-1); e < 16; e++ {
				if e == api.OK {
					continue
				}
				none := e == api.ErrNone && c.Kind == api.CallSince && c.N < uint64(n)
				h.report.Events[1].Answer = api.Answer{E: e}
				if got := h.check(); (len(got) == 0) != (e == right.E || none) {
					t.Errorf("of the size %d, %v: the error %d: %v", n, c, e, got)
				}
				h.report.Events[1].Answer.Receipt = []byte{1}
				h.want(t, "a receipt beside an error", finding(1, audit.RuleReceipt))
			}
		}
	}
}

// Of a receipt that was turned at any byte Check says what proof.Verify says of the claim.
func TestP27_1_ReceiptTurned(t *testing.T) {
	h := orders(0)
	s := grown(t, width, h.entries...)[5]
	for _, c := range []api.Call{{Kind: api.CallEntry, N: 2}, {Kind: api.CallKey, Key: []byte("c")}, {Kind: api.CallKey, Key: []byte("f")}, {Kind: api.CallSince, N: 3}} {
		right := receiptOf(s, c).Receipt
		claim, _ := proof.Claimed(width, right)
		for i := range right {
			turned := bytes.Clone(right)
			turned[i] ^= 1
			h.programs, h.report = [][]api.Call{{c}}, report(5, inOrder(read(1, 0, api.Answer{Receipt: turned})))
			if got := h.check(); (len(got) == 0) != (proof.Verify(width, claim, turned) == api.OK) {
				t.Errorf("%v, turned at %d: %v", c, i, got)
			}
		}
		for _, other := range [][]byte{nil, {}, right[1:], right[:len(right)-1], append(bytes.Clone(right), 0)} {
			h.report.Events[1].Answer = api.Answer{Receipt: other}
			h.want(t, "cut or longer", finding(1, audit.RuleReceipt))
		}
	}
}

// What stands beside a receipt is not looked at.
func TestP27_1_ReceiptOtherFields(t *testing.T) {
	h := orders(0)
	s := grown(t, width, h.entries...)[5]
	for _, c := range receiptCalls() {
		a := receiptOf(s, c)
		a.Index, a.Root, a.Value, a.Present = 7, api.Root{Size: 9}, []byte("x"), true
		h.programs, h.report = [][]api.Call{{c}}, report(5, inOrder(read(1, 0, a)))
		h.want(t, "other fields")
	}
}

// A client whose size is above the count of entries: its reads break no rule, whatever they answer; other rules are looked at.
func TestP27_1_BeyondTheLog(t *testing.T) {
	entries := []api.Entry{put("a", "1"), put("b", "2")}
	s := grown(t, width, entries...)
	answers := []api.Answer{{}, {E: api.ErrText}, {E: api.ErrLong, Value: []byte("x")}, {Value: []byte("x")}, {Present: true, Receipt: []byte{1}}, {E: api.ErrRange, Receipt: []byte{1}}}
	for _, a := range answers {
		for _, c := range append(receiptCalls(), gets("a"), gets(strings.Repeat("k", 65))) {
			for _, start := range []uint64{3, 9, math.MaxUint64} {
				h := history{width, [][]api.Call{{c, call(api.CallPin), gets("a")}}, entries, report(start, inOrder(read(1, 0, a), read(1, 1, api.Answer{Root: s[2].Root()}), read(1, 2, api.Answer{})))}
				h.want(t, "beyond", finding(3, audit.RulePin), finding(5, audit.RuleRead))
			}
		}
	}
	h := history{width, [][]api.Call{{call(api.CallClose), call(0)}}, entries, report(3, inOrder([]api.Event{begin(1, 0), send(1, 0), end(1, 0, api.Answer{})}, read(1, 1, api.Answer{})))}
	h.want(t, "other calls", finding(4, audit.RuleRead))
}

// Whatever a Close answers, no rule but that of the shape is broken.
func TestP27_1_Close(t *testing.T) {
	for e := api.Errno(-1); e < 16; e++ {
		h := history{width, [][]api.Call{{call(api.CallClose)}}, nil, report(0, inOrder([]api.Event{begin(1, 0), send(1, 0), end(1, 0, api.Answer{E: e, Index: 9, Value: []byte("x"), Receipt: []byte{1}, Root: api.Root{Size: 8}})}))}
		h.want(t, "a Close")
	}
}

// Where w is no width, or an entry may not be appended, there is no finding.
func TestP27_1_NoLog(t *testing.T) {
	bad := []api.Event{{Pick: -1, Actor: 77}}
	for _, w := range []int{0, -1, 33, math.MaxInt, math.MinInt} {
		history{w, nil, nil, report(0, bad)}.want(t, "no width")
	}
	for _, w := range []int{1, 32} {
		history{w, nil, nil, report(0, bad)}.want(t, "a width", finding(0, audit.RuleShape))
	}
	long := api.Entry{Kind: api.Put, Key: make([]byte, 65)}
	for _, own := range []api.Entry{{}, {Kind: 3}, long, {Kind: api.Delete, Value: []byte("v")}, {Kind: api.Put, Value: make([]byte, 257)}} {
		for at := range 3 {
			entries := []api.Entry{put("a", "1"), put("b", "2"), put("c", "3")}
			history{width, nil, entries, report(0, bad)}.want(t, "a log", finding(0, audit.RuleShape))
			entries[at] = own
			history{width, nil, entries, report(0, bad)}.want(t, "no log")
		}
	}
	most := api.Entry{Kind: api.Put, Key: make([]byte, 64), Value: make([]byte, 256)}
	history{width, nil, []api.Entry{most}, report(0, bad)}.want(t, "the longest entry", finding(0, audit.RuleShape))
}

func TestP27_1_Rules(t *testing.T) {
	if audit.RuleOrder != 1 || audit.RulePin != 2 || audit.RuleRead != 3 || audit.RuleReceipt != 4 || audit.RuleShape != 5 {
		t.Error("the rules have other numbers")
	}
}

func TestP27_Examples(t *testing.T) {
	e, f := put("e", "1"), put("f", "1")
	d, _ := disk.New(512)
	programs := [][]api.Call{{appends(e), call(api.CallPin)}}
	r := epoch.Play(d, width, 1000, epoch.Plan{Config: seqr.Config{Batch: 1, Places: 1}, Programs: programs, Calm: true})
	history{width, programs, []api.Entry{e}, r}.want(t, "1")
	ends := slices.IndexFunc(r.Events, func(v api.Event) bool { return v.Kind == api.EvEnd })
	history{width, programs, []api.Entry{f}, r}.want(t, "1, another log", finding(ends, audit.RuleOrder), finding(len(r.Events)-1, audit.RulePin))

	shapes(end(1, 0, api.Answer{})).want(t, "2", finding(0, audit.RuleShape))
	shapes(begin(1, 1)).want(t, "2", finding(0, audit.RuleShape))
	shapes(api.Event{Pick: 3, Kind: api.EvTake}, api.Event{Pick: 3, Kind: api.EvTake}).want(t, "2", finding(1, audit.RuleShape))

	h := orders(0, []api.Event{begin(1, 0), begin(2, 0), send(1, 0), send(2, 0), end(1, 0, api.Answer{}), end(2, 0, api.Answer{})})
	h.want(t, "3", finding(5, audit.RuleOrder))
	h = orders(0, whole(1, 0, 4), whole(2, 0, 2))
	h.programs = [][]api.Call{{appends(put("e", "v"))}, {appends(put("c", "v"))}}
	h.want(t, "3", finding(5, audit.RuleOrder))

	s := grown(t, width, e)[1]
	p, _ := s.ReceiptEntry(0)
	c := api.Claim{Kind: api.ClaimEntry, Root: s.Sealed(), Entry: e}
	if got := audit.Receipts(width, []api.Claim{c, c}, [][]byte{p}); !slices.Equal(got, []api.Errno{api.OK, proof.Verify(width, c, nil)}) {
		t.Errorf("4: %v", got)
	}
}

// manyClaims answers claims of all kinds, and receipts of which some show them.
func manyClaims(t testing.TB, count int) ([]api.Claim, [][]byte) {
	t.Helper()
	s := grown(t, width, orders(0).entries...)[6]
	var claims []api.Claim
	var receipts [][]byte
	for i := range count {
		calls := receiptCalls()
		p := receiptOf(s, calls[i*7%len(calls)]).Receipt
		claim, _ := proof.Claimed(width, p)
		switch i % 5 {
		case 1:
			claim.Root[0]++
		case 2:
			p = bytes.Clone(p[:len(p)/2])
		case 3:
			p = append([]byte{1}, bytes.Repeat([]byte{0xff}, 60)...)
		}
		claims, receipts = append(claims, claim), append(receipts, p)
	}
	return claims, receipts
}

// As many answers as claims, each what proof.Verify says of the receipt with its number, or of no bytes.
func TestP27_3_Receipts(t *testing.T) {
	seen := map[api.Errno]int{}
	for _, count := range []int{0, 1, 2, 7, 63, 64, 65, 127, 128, 129, 700} {
		claims, receipts := manyClaims(t, count)
		for _, given := range []int{0, 1, count / 2, count - 1, count, 64, 128} {
			if given < 0 || given > count {
				continue
			}
			for _, w := range []int{width, 0, 33, 5} {
				got := audit.Receipts(w, claims, receipts[:given])
				if len(got) != count {
					t.Fatalf("%d claims: %d answers", count, len(got))
				}
				for i, e := range got {
					var p []byte
					if i < given {
						p = receipts[i]
					}
					if want := proof.Verify(w, claims[i], p); e != want {
						t.Fatalf("%d claims, %d receipts, the width %d: the number %d is %d, want %d", count, given, w, i, e, want)
					}
					seen[e]++
				}
			}
		}
		if got := audit.Receipts(width, claims[:count/2], receipts); len(got) != count/2 {
			t.Errorf("more receipts than claims: %d answers", len(got))
		}
	}
	for _, e := range []api.Errno{api.OK, api.ErrArg, api.ErrForm, api.ErrProof} {
		if seen[e] < 50 {
			t.Errorf("the answer %d came %d times alone", e, seen[e])
		}
	}
	if got := audit.Receipts(width, nil, nil); len(got) != 0 {
		t.Errorf("nothing: %v", got)
	}
}

// However many are asked at a time and however goroutines run, the answer is the same, and no goroutine is left.
func TestP27_3_ManyAtATime(t *testing.T) {
	claims, receipts := manyClaims(t, 300)
	want := audit.Receipts(width, claims, receipts)
	before := runtime.NumGoroutine()
	for _, procs := range []int{1, 2, 8} {
		old := runtime.GOMAXPROCS(procs)
		var all sync.WaitGroup
		for range 8 {
			all.Go(func() {
				if got := audit.Receipts(width, claims, receipts); !slices.Equal(got, want) {
					t.Error("another answer")
				}
			})
		}
		all.Wait()
		runtime.GOMAXPROCS(old)
	}
	for range 1000 { // one that has done its last word may not be gone yet
		if runtime.NumGoroutine() <= before {
			break
		}
		time.Sleep(time.Millisecond)
	}
	if after := runtime.NumGoroutine(); after > before {
		t.Errorf("%d goroutines, ahead of it %d", after, before)
	}
}

// What is handed in is let be and not kept, and answers are new memory.
func TestMemory_Receipts(t *testing.T) {
	claims, receipts := manyClaims(t, 100)
	kept, keptReceipts := slices.Clone(claims), [][]byte{}
	for _, p := range receipts {
		keptReceipts = append(keptReceipts, bytes.Clone(p))
	}
	got := audit.Receipts(width, claims, receipts)
	want := slices.Clone(got)
	for i := range claims {
		if proof.Verify(width, claims[i], keptReceipts[i]) != want[i] || claims[i].Root != kept[i].Root || !bytes.Equal(receipts[i], keptReceipts[i]) {
			t.Fatal("what was handed in was changed")
		}
	}
	again := audit.Receipts(width, claims, receipts)
	clear(again[:cap(again)])
	clear(claims)
	clear(receipts)
	if !slices.Equal(got, want) {
		t.Error("an answer shares memory")
	}
}

func newWitness(t testing.TB, w int) *audit.Witness {
	t.Helper()
	witness, e := audit.NewWitness(w)
	if e != api.OK || witness == nil {
		t.Fatalf("NewWitness(%d): %d", w, e)
	}
	return witness
}

// wantKnown looks what the witness knows.
func wantKnown(t testing.TB, what string, witness *audit.Witness, root api.Root, known bool) {
	t.Helper()
	if r, ok := witness.Known(); r != root || ok != known {
		t.Errorf("%s: it knows %v, %v, want %v, %v", what, r, ok, root, known)
	}
}

func TestP27_4_NewWitness(t *testing.T) {
	for _, w := range []int{0, -1, 33, math.MaxInt, math.MinInt} {
		if witness, e := audit.NewWitness(w); witness != nil || e != api.ErrArg {
			t.Errorf("NewWitness(%d): %v, %d", w, witness, e)
		}
	}
	for w := 1; w <= 32; w++ {
		wantKnown(t, "new", newWitness(t, w), api.Root{}, false)
	}
	one, other := newWitness(t, width), newWitness(t, width)
	root := grown(t, width, put("a", "1"))[1].Root()
	one.Show(root, nil)
	wantKnown(t, "one", one, root, true)
	wantKnown(t, "the other", other, api.Root{}, false)
}

func TestP27_4_NoWitness(t *testing.T) {
	var none *audit.Witness
	wantKnown(t, "nil", none, api.Root{}, false)
	for _, root := range []api.Root{{}, {Log: api.Digest{9: 1}}, grown(t, width, put("a", "1"))[1].Root()} {
		if e := none.Show(root, nil); e != api.ErrNone {
			t.Errorf("Show to nil: %d", e)
		}
	}
	wantKnown(t, "nil", none, api.Root{}, false)
	var zero audit.Witness // nothing is promised but that nothing panics
	zero.Show(api.Root{}, nil)
	zero.Known()
}

// The first root that is shown is known, whatever the receipt is, if its digests are of the width.
func TestP27_5_First(t *testing.T) {
	for _, w := range []int{1, 4, 31, 32} {
		s := grown(t, w, put("a", "1"), put("b", "2"))
		roots := []api.Root{s[0].Root(), s[2].Root(), {}, {Size: math.MaxUint64, Log: api.Digest{7}, Map: api.Digest{8}}}
		for _, root := range roots {
			for _, receipt := range [][]byte{nil, {1, 2, 3}, make([]byte, 5000)} {
				witness := newWitness(t, w)
				for at := w; at < 32; at++ {
					var d api.Digest
					d[at] = byte(at)
					for _, bad := range []api.Root{{Size: 1, Log: d}, {Size: 1, Map: d}} {
						if e := witness.Show(bad, receipt); e != api.ErrForm {
							t.Errorf("the width %d: %v: %d", w, bad, e)
						}
						wantKnown(t, "not of the width", witness, api.Root{}, false)
					}
				}
				if e := witness.Show(root, receipt); e != api.OK {
					t.Errorf("the width %d: %v: %d", w, root, e)
				}
				wantKnown(t, "the first", witness, root, true)
			}
		}
	}
}

// Later ones: what proof.Verify says of the receipt for the claim decides.
func TestP27_5_Later(t *testing.T) {
	entries := orders(0).entries
	other := slices.Clone(entries)
	other[1] = put("b", "other")
	s, forked := grown(t, width, entries...), grown(t, width, other...)
	taken := 0
	for m := range s {
		for n := range s {
			for _, ledger := range []*snap.Snap{s[n], forked[n]} {
				for k := range s {
					for _, shower := range []*snap.Snap{s[n], forked[n], s[6]} {
						p, _ := shower.ReceiptSince(uint64(k))
						witness := newWitness(t, width)
						witness.Show(s[m].Root(), nil)
						want := proof.Verify(width, api.Claim{Kind: api.ClaimSince, Root: ledger.Sealed(), Old: s[m].Sealed()}, p)
						if e := witness.Show(ledger.Root(), p); e != want {
							t.Fatalf("from %d to %d by the receipt since %d: %d, want %d", m, n, k, e, want)
						}
						if want == api.OK {
							taken++
							wantKnown(t, "taken", witness, ledger.Root(), true)
						} else {
							wantKnown(t, "not taken", witness, s[m].Root(), true)
						}
					}
				}
			}
		}
	}
	if taken < 28 {
		t.Errorf("%d were taken", taken)
	}
}

func TestP27_5_Errors(t *testing.T) {
	s := grown(t, width, orders(0).entries...)
	witness := newWitness(t, width)
	witness.Show(s[3].Root(), nil)
	on, _ := s[5].ReceiptSince(3)
	stands, _ := s[5].ReceiptEntry(3)
	long := append(bytes.Clone(on[:1+2*(8+2*width)]), 0x81, 1) // 129 digests
	bad := s[5].Root()
	bad.Map[width] = 1
	for _, c := range []struct {
		what    string
		root    api.Root
		receipt []byte
		e       api.Errno
	}{
		{"no bytes", s[5].Root(), nil, api.ErrForm}, {"too many digests", s[5].Root(), long, api.ErrLong}, {"another kind", s[5].Root(), stands, api.ErrProof}, {"another root", s[4].Root(), on, api.ErrProof},
		{"not of the width", bad, on, api.ErrForm}, {"not of the width and too many digests", bad, long, api.ErrForm}, {"not of the width and another kind", bad, stands, api.ErrForm},
		{"the known one, without a receipt", s[3].Root(), nil, api.ErrForm}, {"the empty one", api.Root{}, nil, api.ErrForm},
	} {
		if e := witness.Show(c.root, c.receipt); e != c.e {
			t.Errorf("%s: %d, want %d", c.what, e, c.e)
		}
		wantKnown(t, c.what, witness, s[3].Root(), true)
	}
	if e := witness.Show(s[5].Root(), on); e != api.OK {
		t.Errorf("the right one: %d", e)
	}
	wantKnown(t, "the right one", witness, s[5].Root(), true)
}

// Each root that is taken is the one that the next has to go on from: a chain.
func TestP27_5_Chain(t *testing.T) {
	s := grown(t, width, orders(0).entries...)
	witness := newWitness(t, width)
	for _, n := range []uint64{0, 0, 1, 3, 3, 4, 6} {
		known, ok := witness.Known()
		p, _ := s[n].ReceiptSince(known.Size)
		if e := witness.Show(s[n].Root(), p); e != api.OK {
			t.Fatalf("to %d: %d", n, e)
		}
		wantKnown(t, "chain", witness, s[n].Root(), true)
		if ok && known.Size < n {
			back, _ := s[n].ReceiptSince(known.Size)
			if e := witness.Show(known, back); e == api.OK {
				t.Fatalf("back from %d to %d", n, known.Size)
			}
			wantKnown(t, "back", witness, s[n].Root(), true)
		}
	}
}

// Receipts of unlike entries at one index, under two roots that a witness has taken one behind the other, make two unlike inputs of one digest.
func TestP27_5_Rewrite(t *testing.T) {
	const w = 1
	leaves := map[api.Digest]api.Entry{}
	var one, other api.Entry
	for i := 0; one.Kind == 0; i++ {
		own := put("k", strconv.Itoa(i))
		p, _ := entry.Encode(own)
		leaf, _ := digest.Leaf(w, p)
		if first, has := leaves[leaf]; has {
			one, other = first, own
		}
		leaves[leaf] = own
	}
	first, second := grown(t, w, one)[1], grown(t, w, other, put("x", "y"))
	witness := newWitness(t, w)
	witness.Show(first.Root(), nil)
	since, _ := second[2].ReceiptSince(1) // under it stands the root of other, whose log is that of one
	read, _ := proof.Decode(w, since)
	read.Old = first.Root()
	since, _ = proof.Encode(w, read)
	if e := witness.Show(second[2].Root(), since); e != api.OK {
		t.Fatalf("Show: %d", e)
	}
	p, _ := first.ReceiptEntry(0)
	q, _ := second[2].ReceiptEntry(0)
	sinceClaim, _ := proof.Claimed(w, since)
	old, _ := proof.Claimed(w, p)
	now, _ := proof.Claimed(w, q)
	x, y, e := clash.Rewrite(w, sinceClaim, old, now, since, p, q)
	if e != api.OK || !clash.Shows(w, x, y) {
		t.Errorf("Rewrite: %d", e)
	}
}

// A witness keeps no memory of the receipt, and lets it be.
func TestMemory_Witness(t *testing.T) {
	s := grown(t, width, orders(0).entries...)
	witness := newWitness(t, width)
	witness.Show(s[3].Root(), nil)
	p, _ := s[5].ReceiptSince(3)
	kept := bytes.Clone(p)
	if e := witness.Show(s[5].Root(), p); e != api.OK || !bytes.Equal(p, kept) {
		t.Fatalf("Show: %d", e)
	}
	clear(p)
	wantKnown(t, "written over", witness, s[5].Root(), true)
	q, _ := s[6].ReceiptSince(5)
	if e := witness.Show(s[6].Root(), q); e != api.OK {
		t.Errorf("Show: %d", e)
	}
}

// What one is asked makes no difference to another, nor how goroutines run.
func TestP2_ManyAtATime(t *testing.T) {
	s := grown(t, width, orders(0).entries...)
	h := orders(0, whole(1, 0, 0), read(1, 1, api.Answer{Root: s[1].Root()}), whole(2, 0, 0))
	want := h.check()
	var all sync.WaitGroup
	for range 16 {
		all.Go(func() {
			if !slices.Equal(h.check(), want) {
				t.Error("another answer of Check")
			}
			witness, _ := audit.NewWitness(width)
			for n := range s {
				p, _ := s[n].ReceiptSince(uint64(max(n-1, 0)))
				if e := witness.Show(s[n].Root(), p); e != api.OK {
					t.Errorf("Show: %d", e)
				}
			}
		})
	}
	all.Wait()
	if len(want) != 1 {
		t.Errorf("%v", want)
	}
}

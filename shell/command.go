package shell

import (
	"math"

	"notary/api"
)

// slot is what must stand as a word behind a command: a text, or a number, which has to be from least to most.
type slot struct {
	text        bool
	least, most int
}

// value is what a word stands for: a number or bytes, as its slot has it.
type value struct {
	number int
	bytes  []byte
}

// command is a line's first word, with what must stand behind it and what it does.
type command struct {
	name  string
	slots []slot
	more  bool // further words may follow, each as the last slot has it
	do    func(*Shell, []value) ([]string, api.Errno)
}

func commands() []command {
	number, text, client := slot{most: math.MaxInt}, slot{text: true}, upTo(api.MaxClients)
	return []command{
		{name: "sector", slots: []slot{upTo(api.MaxSector)}, do: (*Shell).setSector},
		{name: "width", slots: []slot{upTo(api.MaxWidth)}, do: (*Shell).setWidth},
		{name: "limit", slots: []slot{upTo(api.MaxLimit)}, do: (*Shell).setLimit},
		{name: "batch", slots: []slot{upTo(api.MaxBatch)}, do: (*Shell).setBatch},
		{name: "places", slots: []slot{upTo(api.MaxCap)}, do: (*Shell).setPlaces},
		{name: "put", slots: []slot{client, text, text}, do: (*Shell).put},
		{name: "delete", slots: []slot{client, text}, do: (*Shell).delete},
		{name: "pin", slots: []slot{client}, do: (*Shell).pin},
		{name: "close", slots: []slot{client}, do: (*Shell).close},
		{name: "get", slots: []slot{client, text}, do: (*Shell).get},
		{name: "key", slots: []slot{client, text}, do: (*Shell).key},
		{name: "entry", slots: []slot{client, number}, do: (*Shell).entry},
		{name: "since", slots: []slot{client, number}, do: (*Shell).since},
		{name: "pick", slots: []slot{number}, more: true, do: (*Shell).pick},
		{name: "calm", do: (*Shell).calm},
		{name: "refuse", slots: []slot{number, number}, do: (*Shell).refuse},
		{name: "crash", slots: []slot{number}, do: (*Shell).crash},
		{name: "cut", do: (*Shell).cut},
		{name: "names", slots: []slot{number}, do: (*Shell).names},
		{name: "keep", slots: []slot{text, number}, do: (*Shell).keep},
		{name: "torn", slots: []slot{text, number}, do: (*Shell).torn},
		{name: "run", do: (*Shell).run},
		{name: "log", do: (*Shell).log},
		{name: "root", do: (*Shell).root},
		{name: "audit", do: (*Shell).audit},
		{name: "reset", do: (*Shell).reset},
	}
}

func upTo(most int) slot { return slot{least: 1, most: most} }

// commandOf answers the command of that name, and whether there is one.
func commandOf(name string) (command, bool) {
	for _, c := range commands() {
		if c.name == name {
			return c, true
		}
	}
	return command{}, false
}

// read answers what the words behind the command stand for; or the error, and the place of the byte at fault. end is the line's length.
func (c command) read(words []word, end int) ([]value, int, api.Errno) {
	var values []value
	for i, w := range words {
		v, ok := c.valueOf(i, w.text)
		if !ok {
			return nil, w.at, api.ErrText
		}
		values = append(values, v)
	}
	if len(words) < len(c.slots) {
		return nil, end, api.ErrText
	}
	for i, v := range values {
		if !c.slotOf(i).takes(v) {
			return nil, words[i].at, api.ErrArg
		}
	}
	return values, 0, api.OK
}

// valueOf answers what the word with the number i behind the command stands for, and whether such a one may stand there.
func (c command) valueOf(i int, text string) (v value, ok bool) {
	if i >= len(c.slots) && !c.more {
		return value{}, false
	}
	if c.slotOf(i).text {
		v.bytes, ok = textOf(text)
	} else {
		v.number, ok = numberOf(text)
	}
	return v, ok
}

// slotOf answers the slot of the word with the number i; the last one is also that of those behind it.
func (c command) slotOf(i int) slot { return c.slots[min(i, len(c.slots)-1)] }

// takes tells whether the value is in the range of the slot; a text always is.
func (s slot) takes(v value) bool { return s.text || s.least <= v.number && v.number <= s.most }

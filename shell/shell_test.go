package shell_test

import (
	"encoding/hex"
	"fmt"
	"reflect"
	"runtime"
	"slices"
	"strconv"
	"strings"
	"sync"
	"testing"
	"time"

	"notary/api"
	"notary/disk"
	"notary/epoch"
	"notary/seqr"
	"notary/shell"
	"notary/snap"
	"notary/world"
)

// says hands the lines to the shell; each has to be taken, and all but the last one to answer nothing. It answers the last one's lines.
func says(t testing.TB, s *shell.Shell, lines ...string) []string {
	t.Helper()
	var last []string
	for i, line := range lines {
		r := s.Line(line)
		if r.E != api.OK || r.At != 0 || i < len(lines)-1 && len(r.Lines) != 0 {
			t.Fatalf("%q: %v", line, r)
		}
		last = r.Lines
	}
	return last
}

func wantLines(t testing.TB, what string, got []string, want ...string) {
	t.Helper()
	if !slices.Equal(got, want) {
		t.Errorf("%s: %q, want %q", what, got, want)
	}
}

// wantFault hands a line to the shell, which has to be at fault.
func wantFault(t testing.TB, s *shell.Shell, line string, at int, e api.Errno) {
	t.Helper()
	if r := s.Line(line); r.At != at || r.E != e || len(r.Lines) != 0 {
		t.Errorf("%q: %v, want the error %d at %d", line, r, e, at)
	}
}

// A line is words with blanks in front of, between and behind them; every other byte belongs to a word.
func TestP28_1_Words(t *testing.T) {
	s := shell.New()
	for _, line := range []string{"", " ", "     ", strings.Repeat(" ", 400)} {
		wantLines(t, "no word", says(t, s, line))
	}
	says(t, s, "put 1 a x", "   put   1  b    y", "put 1 c z  ", " put 1 \t\n \x00", "put 1 \xff\xfe \xe2\x82", "put 1 ä €", "calm", "run")
	wantLines(t, "log", says(t, s, "log"), "put a x", "put b y", "put c z", "put %09%0a %00", "put %ff%fe %e2%82", "put %c3%a4 %e2%82%ac")
	for at, line := range []string{"log\t", " \tlog", "  log\n", "   \u00a0log", "    LOG", "     \xfflog", "      lo"} {
		wantFault(t, s, line, at, api.ErrName)
	}
}

func TestP28_2_Numbers(t *testing.T) {
	for _, word := range []string{"0", "00", "7", "007", "000000000000000001", "999999999999999999"} {
		says(t, shell.New(), "crash "+word, "pick "+word, "names "+word, "keep a "+word, "refuse "+word+" "+word, "entry 1 "+word)
	}
	for _, word := range []string{"-", "-1", "+1", "1a", "a", "0000000000000000001", "1000000000000000000", "1.0", "1e3", "0x1", "1_0", "١", "\xff", "1\t", "%31", "1,2"} {
		for _, line := range []string{"crash ", "pick ", "pick 1 2 ", "names ", "keep a ", "torn a ", "refuse ", "refuse 1 ", "entry 1 ", "since 1 ", "pin ", "put ", "width ", "batch "} {
			wantFault(t, shell.New(), line+word, len(line), api.ErrText)
		}
	}
	s := shell.New()
	says(t, s, "put 000000000000000001 a x", "pick 01 1 000 0 0 0 0 1", "run")
	wantLines(t, "noughts in front", says(t, s, "log"), "put a x")
}

// A pick means an actor modulo their count, however great it is.
func TestP28_2_GreatPicks(t *testing.T) {
	s := shell.New()
	says(t, s, "pin 1", "pin 2", "pick 999999999999999998 999999999999999997 999999999999999999") // of three actors 2, 1, 0
	wantLines(t, "run", says(t, s, "run"), "0 2 begin 0", "1 1 begin 0", "end "+wordsRoot(32, ledgerOf(t, 32).Root())+" 0")
}

func put(key, value string) api.Entry {
	return api.Entry{Kind: api.Put, Key: []byte(key), Value: []byte(value)}
}

// ledgerOf answers the ledger of the entries.
func ledgerOf(t testing.TB, w int, entries ...api.Entry) *snap.Snap {
	t.Helper()
	s, e := snap.New(w)
	for i := range entries {
		s, e = s.Apply(api.Batch{First: uint64(i), Entries: entries[i : i+1]})
		if e != api.OK {
			t.Fatalf("Apply: %d", e)
		}
	}
	return s
}

// Each byte as itself or by its number, and told again.
func TestP28_2_Texts(t *testing.T) {
	for c := range 256 {
		byNumber := fmt.Sprintf("%%%02x", c)
		want := byNumber
		if c > 0x20 && c < 0x7f && c != '%' {
			want = string(rune(c))
		}
		words := []string{byNumber}
		if c != ' ' && c != '%' {
			words = append(words, string([]byte{byte(c)}))
		}
		for _, word := range words {
			s := shell.New()
			says(t, s, "put 1 x"+word+word+" "+word+"y", "delete 1 "+word+"z", "calm", "run")
			wantLines(t, byNumber, says(t, s, "log"), "put x"+want+want+" "+want+"y", "delete "+want+"z")
		}
	}
}

// A minus alone is no bytes; one by its number is a minus, and so is one among others.
func TestP28_2_Minus(t *testing.T) {
	s := shell.New()
	says(t, s, "put 1 - -", "put 1 %2d %2d", "put 1 -- -a", "put 1 %2d- a-", "delete 1 -", "delete 1 %2d", "get 1 %2d", "pin 1", "get 1 -", "get 1 --", "calm", "run")
	wantLines(t, "log", says(t, s, "log"), "put - -", "put %2d %2d", "put -- -a", "put -- a-", "delete -", "delete %2d")
	s = shell.New()
	lines := says(t, s, "put 1 - -", "put 1 %2d %2d", "put 1 c -c", "pin 1", "get 1 -", "get 1 %2d", "get 1 c", "get 1 d", "calm", "run")
	wantLines(t, "values", endsOf(lines)[4:], "ok -", "ok %2d", "ok -c", "none")
}

// endsOf answers what the calls of a run ended with, without pick, actor and call.
func endsOf(lines []string) []string {
	var ends []string
	for _, line := range lines[:len(lines)-1] {
		if f := strings.Split(line, " "); f[2] == "end" {
			ends = append(ends, strings.Join(f[4:], " "))
		}
	}
	return ends
}

func TestP28_2_NoTexts(t *testing.T) {
	for _, word := range []string{"%", "%4", "a%", "a%4", "%g0", "%0g", "%4A", "%A4", "%%41", "%41%", "%-1", "% ", "%\xff0", "%ä"} {
		for _, line := range []string{"put 1 ", "put 1 a ", "delete 1 ", "get 1 ", "key 1 ", "keep ", "torn "} {
			wantFault(t, shell.New(), line+word, len(line), api.ErrText)
		}
	}
	says(t, shell.New(), "put 1 %41%42 %00%ff", "put 1 %25 %2541", "get 1 %20", "keep %41 1")
	for c := range 256 {
		if strings.IndexByte("0123456789abcdef", byte(c)) < 0 && c != ' ' {
			wantFault(t, shell.New(), "get 1 a%0"+string([]byte{byte(c)}), 6, api.ErrText)
			wantFault(t, shell.New(), "get 1 a%"+string([]byte{byte(c)})+"0", 6, api.ErrText)
		}
	}
}

// commandLines answers for each command a line that a new shell takes.
func commandLines() map[string]string {
	return map[string]string{
		"sector": "sector 16", "width": "width 4", "limit": "limit 100", "batch": "batch 2", "places": "places 1",
		"put": "put 1 a x", "delete": "delete 1 a", "pin": "pin 1", "close": "close 1", "get": "get 1 a", "key": "key 1 a", "entry": "entry 1 0", "since": "since 1 0",
		"pick": "pick 1", "calm": "calm", "refuse": "refuse 1 0", "crash": "crash 1", "cut": "cut", "names": "names 1", "keep": "keep a 1", "torn": "torn a 1",
		"run": "run", "log": "log", "root": "root", "reset": "reset",
	}
}

// Each command with a word less, a word more, each word wrong, and as it has to be.
func TestP28_3_4_EachCommand(t *testing.T) {
	for name, line := range commandLines() {
		says(t, shell.New(), line)
		says(t, shell.New(), "  "+strings.ReplaceAll(line, " ", "   ")+" ")
		words := strings.Split(line, " ")
		for n := 1; n < len(words); n++ {
			less := strings.Join(words[:n], " ")
			wantFault(t, shell.New(), less, len(less), api.ErrText)
			wantFault(t, shell.New(), " "+less+"  ", len(less)+3, api.ErrText)
			for _, wrong := range []string{"%", "x%4"} { // neither a number nor a text
				spoiled := slices.Clone(words)
				spoiled[n] = wrong
				wantFault(t, shell.New(), strings.Join(spoiled, " "), len(less)+1, api.ErrText)
			}
		}
		if name != "pick" {
			for _, more := range []string{"1", "x", "-", "%"} {
				wantFault(t, shell.New(), line+" "+more, len(line)+1, api.ErrText)
				wantFault(t, shell.New(), line+"  "+more+" 2 3", len(line)+2, api.ErrText)
			}
		}
		for _, other := range []string{strings.ToUpper(line), "x" + line, strings.Replace(line, name, name+"s", 1), strings.Replace(line, name, name[1:], 1)} {
			wantFault(t, shell.New(), "  "+other, 2, api.ErrName)
		}
	}
	wantFault(t, shell.New(), "audit 1", 6, api.ErrText)
	wantFault(t, shell.New(), "audit", 0, api.ErrNone)
}

// The first fault from the left counts; a number outside its range only where there is no other.
func TestP28_4_Order(t *testing.T) {
	s := shell.New()
	for _, c := range []struct {
		line string
		at   int
		e    api.Errno
	}{
		{"what % %", 0, api.ErrName}, {"put x %", 4, api.ErrText}, {"put 1 % %", 6, api.ErrText}, {"put 0 % x", 6, api.ErrText}, {"put 0 a", 7, api.ErrText}, {"put 0 a b c", 10, api.ErrText}, {"put 0 a b", 4, api.ErrArg}, {"put 65  a b", 4, api.ErrArg},
		{"put 1 a b % c", 10, api.ErrText}, {"  put  0 a b", 7, api.ErrArg}, {"refuse x y", 7, api.ErrText}, {"refuse 1 y z", 9, api.ErrText}, {"keep % x", 5, api.ErrText}, {"run x y", 4, api.ErrText},
		{"width 33 1", 9, api.ErrText}, {"width 33", 6, api.ErrArg}, {"width", 5, api.ErrText}, {"  width   ", 10, api.ErrText}, {"pick 1 2 x 3 y", 9, api.ErrText},
	} {
		wantFault(t, s, c.line, c.at, c.e)
	}
	says(t, s, "run")
	for _, c := range []struct {
		line string
		at   int
		e    api.Errno
	}{
		{"width 33", 6, api.ErrArg}, {"sector 0", 7, api.ErrArg}, {"limit 1048577", 6, api.ErrArg}, {"width x", 6, api.ErrText}, {"width 4 4", 8, api.ErrText}, {"width", 5, api.ErrText}, {"width 32", 0, api.ErrExists}, {" sector  64", 0, api.ErrExists}, {"  limit 4096 ", 0, api.ErrExists},
	} {
		wantFault(t, s, c.line, c.at, c.e)
	}
}

func TestP28_4_MaxLine(t *testing.T) {
	text := func(n int) string { return "put 1 k " + strings.Repeat("v", n-8) }
	s := shell.New()
	says(t, s, text(400), strings.Repeat(" ", 400), strings.Repeat(" ", 397)+"cut")
	for _, line := range []string{text(401), strings.Repeat(" ", 401), strings.Repeat("x", 401), "cut" + strings.Repeat(" ", 398), strings.Repeat("\n", 500), text(1 << 20), strings.Repeat("ä", 201)} {
		wantFault(t, s, line, 0, api.ErrLong)
	}
	wantFault(t, s, strings.Repeat("x", 400), 0, api.ErrName)
	wantFault(t, s, strings.Repeat("ä", 200), 0, api.ErrName)
	wantFault(t, s, strings.Repeat(" ", 399)+"x", 399, api.ErrName)
}

// Each limit: at it a line is taken, one beyond it is ErrArg.
func TestP28_3_Ranges(t *testing.T) {
	for _, c := range []struct {
		before, behind string
		most           int
	}{
		{"sector ", "", api.MaxSector}, {"width ", "", api.MaxWidth}, {"limit ", "", api.MaxLimit}, {"batch ", "", api.MaxBatch}, {"places ", "", api.MaxCap},
		{"put ", " a b", api.MaxClients}, {"delete ", " a", api.MaxClients}, {"pin ", "", api.MaxClients}, {"close ", "", api.MaxClients}, {"get ", " a", api.MaxClients}, {"key ", " a", api.MaxClients}, {"entry ", " 0", api.MaxClients}, {"since ", " 0", api.MaxClients},
	} {
		for _, n := range []int{1, 2, c.most} {
			s := shell.New()
			says(t, s, c.before+strconv.Itoa(n)+c.behind, "calm")
			if lines := says(t, s, "run"); strings.HasPrefix(lines[0], "refused") {
				t.Errorf("%s%d: %q", c.before, n, lines)
			}
		}
		for _, n := range []int{0, c.most + 1, 999999999999999999} {
			wantFault(t, shell.New(), c.before+strconv.Itoa(n)+c.behind, len(c.before), api.ErrArg)
		}
	}
	for _, line := range []string{"pick 0 999999999999999999", "refuse 0 0", "crash 0", "names 0", "keep a 0", "torn a 0", "entry 1 999999999999999999", "since 1 999999999999999999"} {
		says(t, shell.New(), line)
	}
}

// played answers the report's lines of the last life of a script.
func played(s world.Script) []string {
	n := len(s.Lives) - 1
	return wordsRun(s.Width, s.Lives[n].Plan.Programs, world.Run(s).Reports[n])
}

func appends(e api.Entry) api.Call { return api.Call{Kind: api.CallAppend, Entry: e} }

// scriptOf answers a script as a new shell has it.
func scriptOf(lives ...world.Life) world.Script {
	return world.Script{Sector: 64, Width: 32, Limit: 4096, Lives: lives}
}

func lifeOf(calm bool, programs ...[]api.Call) world.Life {
	return world.Life{Plan: epoch.Plan{Config: seqr.Config{Batch: 4, Places: 4}, Programs: programs, Calm: calm}}
}

// What a new shell has: the sector, the width, the limit and the configuration, each of which another number would show.
func TestP28_3_AtFirst(t *testing.T) {
	first := lifeOf(true)
	var lines []string
	for client := 1; client <= 9; client++ {
		var program []api.Call
		for i := range 3 {
			value := strings.Repeat("v", 200)
			program = append(program, appends(put(fmt.Sprintf("%d-%d", client, i), value)))
			lines = append(lines, fmt.Sprintf("put %d %d-%d %s", client, client, i, value))
		}
		first.Plan.Programs = append(first.Plan.Programs, program)
	}
	second := lifeOf(true, []api.Call{appends(put("a", "x")), appends(put("b", "y"))})
	s := shell.New()
	says(t, s, append(lines, "calm")...)
	wantLines(t, "run", says(t, s, "run"), played(scriptOf(first))...)
	for _, other := range []world.Life{{Plan: epoch.Plan{Config: seqr.Config{Batch: 3, Places: 4}}}, {Plan: epoch.Plan{Config: seqr.Config{Batch: 5, Places: 4}}}} {
		other.Plan.Programs, other.Plan.Calm = first.Plan.Programs, true
		if reflect.DeepEqual(played(scriptOf(first)), played(scriptOf(other))) {
			t.Error("the batch makes no difference here")
		}
	}
	says(t, s, "put 1 a x", "put 1 b y", "calm")
	wantLines(t, "run", says(t, s, "run"), played(scriptOf(first, second))...)
}

// The limit of the segments shows in the operations that are counted: those of a log of several segments.
func TestP28_3_Limit(t *testing.T) {
	for _, limit := range []int{0, 1, 150, 4096} {
		for crash := 5; crash < 40; crash++ {
			script := scriptOf(lifeOf(true, slices.Repeat([]api.Call{appends(put("k", strings.Repeat("v", 200)))}, 24)))
			script.Lives[0].Crash = crash
			s := shell.New()
			if limit > 0 {
				script.Limit = limit
				says(t, s, "limit "+strconv.Itoa(limit))
			}
			for range 24 {
				says(t, s, "put 1 k "+strings.Repeat("v", 200))
			}
			says(t, s, "calm", "crash "+strconv.Itoa(crash))
			wantLines(t, "run", says(t, s, "run"), played(script)...)
		}
	}
}

// Of how many places the queue has no event tells: who finds none stands in the line, and is taken in the same order. So its number is only taken.
func TestP28_3_Places(t *testing.T) {
	for _, places := range []int{1, 2, 64} {
		s := shell.New()
		says(t, s, "places "+strconv.Itoa(places), "put 1 a x", "put 2 b y", "put 3 c z", "pick 3 1 2 3 1 2 0 0", "calm")
		says(t, s, "run")
		wantLines(t, "log", says(t, s, "log"), "put c z", "put a x", "put b y")
	}
}

// The configuration stays from epoch to epoch; all else is laid up for one.
func TestP28_3_Configuration(t *testing.T) {
	s := shell.New()
	program := []string{"put 1 a x", "put 2 b y", "put 3 c z", "pick 1 2 3 1 2 3", "calm"}
	takes := func(lines []string) string {
		told := ""
		for _, line := range lines {
			if f := strings.Split(line, " "); f[2] == "take" {
				told += f[4]
			}
		}
		return told
	}
	for _, c := range []struct{ set, takes string }{{"", "123"}, {"batch 2", "121"}, {"", "121"}, {"batch 1", "111"}, {"", "111"}, {"batch 64", "123"}, {"batch 1", "111"}} {
		says(t, s, append(slices.Clone(program), c.set)...)
		if got := takes(says(t, s, "run")); got != c.takes {
			t.Errorf("%q: %s, want %s", c.set, got, c.takes)
		}
	}
	says(t, s, "batch 2", "reset")
	says(t, s, program...)
	if got := takes(says(t, s, "run")); got != "123" {
		t.Errorf("behind reset: %s", got)
	}
}

// Behind a run nothing is laid up: no program, no pick, no calm, no refusal, no crash, no cut and no fate.
func TestP28_3_NothingIsLeft(t *testing.T) {
	s := shell.New()
	says(t, s, "put 3 a x", "pick 3 3 0 0 0 0 0 3", "refuse 99 0", "crash 98", "cut", "names 5", "keep a 1", "calm", "run")
	wantLines(t, "an empty epoch", says(t, s, "run"), "end "+wordsRoot(32, ledgerOf(t, 32, put("a", "x")).Root())+" 0")
	for _, mishap := range []string{"refuse 7 0", "crash 7"} { // five operations are the recovery's, then the batch is written and synced
		s = shell.New()
		says(t, s, "run")
		says(t, s, "put 1 a x", "calm", mishap, "keep seg-00000000000000000002 1000")
		says(t, s, "run")
		says(t, s, "put 1 b y", "calm")
		if lines := says(t, s, "run"); !strings.HasPrefix(lines[len(lines)-1], "end 2 ") {
			t.Errorf("behind %s: %q", mishap, lines)
		}
	}
	s = shell.New()
	says(t, s, "cut", "run")
	says(t, s, "put 1 a x", "pick 1 1 0 0", "run")
	wantLines(t, "written, and not cut", says(t, s, "log"), "put a x")
}

// The programs are those of the clients up to the greatest that has a call.
func TestP28_3_Programs(t *testing.T) {
	root := " " + wordsRoot(32, ledgerOf(t, 32).Root())
	s := shell.New()
	says(t, s, "pin 64", "pick 64 129 65") // 65 actors: 64, 129 - 65, and the sequencer
	wantLines(t, "64", says(t, s, "run"), "0 64 begin 0", "1 64 end 0 ok"+root, "end"+root+" 0")
	says(t, s, "pin 3", "pin 1", "pick 3 7 2 1 5")
	wantLines(t, "3 and 1", says(t, s, "run"), "0 3 begin 0", "1 3 end 0 ok"+root, "3 1 begin 0", "4 1 end 0 ok"+root, "end"+root+" 0")
	says(t, s, "pick 0 1 2")
	wantLines(t, "none", says(t, s, "run"), "end"+root+" 0")
}

func TestP28_3_Calls(t *testing.T) {
	script := scriptOf(lifeOf(true, []api.Call{
		appends(put("a", "x")), appends(put("b", "")), appends(api.Entry{Kind: api.Delete, Key: []byte("b")}), {Kind: api.CallPin}, {Kind: api.CallGet, Key: []byte("a")}, {Kind: api.CallGet, Key: []byte("b")},
		{Kind: api.CallKey, Key: []byte("a")}, {Kind: api.CallEntry, N: 1}, {Kind: api.CallEntry, N: 3}, {Kind: api.CallSince, N: 2}, {Kind: api.CallSince, N: 9}, {Kind: api.CallClose}, appends(put("c", "z")),
	}))
	s := shell.New()
	says(t, s, "put 1 a x", "put 1 b -", "delete 1 b", "pin 1", "get 1 a", "get 1 b", "key 1 a", "entry 1 1", "entry 1 3", "since 1 2", "since 1 9", "close 1", "put 1 c z", "calm")
	lines := says(t, s, "run")
	wantLines(t, "run", lines, played(script)...)
	ledger := ledgerOf(t, 32, put("a", "x"), put("b", ""), api.Entry{Kind: api.Delete, Key: []byte("b")})
	key, _ := ledger.ReceiptKey([]byte("a"))
	stands, _ := ledger.ReceiptEntry(1)
	since, _ := ledger.ReceiptSince(2)
	wantLines(t, "answers", endsOf(lines), "ok 0", "ok 1", "ok 2", "ok "+wordsRoot(32, ledger.Root()), "ok x", "none", "ok "+hex.EncodeToString(key), "ok "+hex.EncodeToString(stands), "error 4", "ok "+hex.EncodeToString(since), "error 4", "ok", "error 9")
}

// A key or a value that is too long is the call's own error, not the line's.
func TestP28_3_LongTexts(t *testing.T) {
	s := shell.New()
	long, value := strings.Repeat("k", 64), strings.Repeat("v", 256)
	says(t, s, "put 1 "+long+" "+value, "put 1 k"+long+" v", "put 1 k v"+value, "delete 1 k"+long, "get 1 k"+long, "key 1 k"+long, "calm")
	wantLines(t, "answers", endsOf(says(t, s, "run")), "ok 0", "error 2", "error 2", "error 2", "error 2", "error 2")
	wantLines(t, "log", says(t, s, "log"), "put "+long+" "+value)
}

func TestP28_3_Mishaps(t *testing.T) {
	empty := wordsRoot(32, ledgerOf(t, 32).Root())
	s := shell.New()
	says(t, s, "put 1 a x", "pick 1 1 0 0 0", "crash 5", "crash 6") // the last one counts
	wantLines(t, "crash", says(t, s, "run"), "0 1 begin 0", "1 1 send 0", "2 0 take 1 1", "3 0 write 1", "4 0 crash", "end "+empty+" 12")
	wantLines(t, "log", says(t, s, "log"))
	s = shell.New()
	says(t, s, "put 1 a x", "pick 1 1 0 0 0", "crash 5", "crash 0")
	wantLines(t, "no crash", says(t, s, "run"), "0 1 begin 0", "1 1 send 0", "2 0 take 1 1", "3 0 write 1", "4 0 sync", "end "+empty+" 0")
	s = shell.New()
	says(t, s, "put 1 a x", "pick 1 1 0 0 0 1", "refuse 6 3", "refuse 5 2", "refuse 6 0")
	wantLines(t, "refuse", says(t, s, "run"), "0 1 begin 0", "1 1 send 0", "2 0 take 1 1", "3 0 fail", "4 0 reply 1 error 8", "5 1 end 0 error 8", "end "+empty+" 7")
	says(t, s, "refuse 1 0")
	wantLines(t, "refused", says(t, s, "run"), "refused 7")
	says(t, s, "crash 1")
	wantLines(t, "dark", says(t, s, "run"), "refused 12")
}

// What a refused Append leaves is its Keep: all of a batch's bytes or fewer.
func TestP28_3_RefuseKeep(t *testing.T) {
	for keep, log := range map[string][]string{"0": nil, "10": nil, "1000": {"put a x"}} {
		s := shell.New()
		says(t, s, "put 1 a x", "calm", "refuse 5 "+keep)
		says(t, s, "run")
		wantLines(t, keep, says(t, s, "log"), log...)
	}
}

// The fate: names, and of each file's bytes the first Keep of its name.
func TestP28_3_Fate(t *testing.T) {
	const file = " seg-00000000000000000001 "
	for _, c := range []struct {
		lines string // with / between
		log   []string
	}{
		{"", nil}, {"keep" + file + "1000", []string{"put a x"}}, {"torn" + file + "1000", []string{"put a x"}}, {"keep" + file + "5", nil}, {"torn" + file + "5", nil}, {"keep" + file + "1000/keep" + file + "5", []string{"put a x"}}, {"keep" + file + "5/keep" + file + "1000", nil}, {"keep other 1000", nil}, {"keep %73eg-00000000000000000001 1000", []string{"put a x"}},
	} {
		s := shell.New()
		says(t, s, append([]string{"put 1 a x", "pick 1 1 0 0", "cut"}, strings.Split(c.lines, "/")...)...)
		says(t, s, "run")
		wantLines(t, c.lines, says(t, s, "log"), c.log...)
	}
}

// How many names are left shows in the number of operations that the next recovery needs.
func TestP28_3_Names(t *testing.T) {
	for _, c := range []struct {
		names string
		first string
	}{{"", "3 0 write 1"}, {"names 1", "3 0 fail"}, {"names 999999999999999999", "3 0 fail"}, {"names 1/names 0", "3 0 write 1"}, {"names 0/names 1", "3 0 fail"}} {
		s := shell.New()
		says(t, s, append([]string{"crash 4", "keep seg-00000000000000000001 1000"}, strings.Split(c.names, "/")...)...) // at SyncNames
		wantLines(t, "dark", says(t, s, "run"), "refused 12")
		says(t, s, "put 1 a x", "pick 1 1 0 0", "refuse 6 0") // with a segment it is the batch's, without one the batch's Sync
		if lines := says(t, s, "run"); lines[3] != c.first {
			t.Errorf("%q: %q, want %q", c.names, lines, c.first)
		}
	}
}

// A fault changes nothing: behind any number of them all is as without them.
func TestP28_4_ChangesNothing(t *testing.T) {
	faults := []string{
		"what", "put 65 a b", "put 0 z z", "put 1 z", "put 1 % z", "put 1 z z z", "delete 0 z", "pin 0", "pin 1 1", "close 65", "get 1 %", "pick", "pick 1 x", "pick 1 1 1 1 -", "calm 1", "refuse 5", "refuse 5 0 0", "crash", "crash 5 x", "crash x", "cut 1", "names x", "names 1 1", "keep seg-00000000000000000001", "torn seg-00000000000000000001 x",
		"run 1", "run x", "reset x", "log 1", "batch 0", "batch 65", "batch 2 2", "places 0", "places 65", "sector 0", "sector 4097", "width 0", "width 33", "limit 0", "limit 1048577", strings.Repeat(" ", 390) + "reset      ",
	}
	lines := []string{"width 8", "put 1 a x", "put 2 b y", "pick 1 2 1 2 0 0 0 0", "crash 6", "keep seg-00000000000000000001 7", "run", "put 1 c z", "get 1 a", "pick 1 1", "run", "calm", "put 2 d w", "run", "log", "root", "audit"}
	plain, spoiled := shell.New(), shell.New()
	for i, line := range lines {
		for _, fault := range faults {
			if r := spoiled.Line(fault); r.E == api.OK {
				t.Fatalf("%q: %v", fault, r)
			}
		}
		if i > 6 {
			wantFault(t, spoiled, "width 32", 0, api.ErrExists)
			wantFault(t, spoiled, "sector 1", 0, api.ErrExists)
			wantFault(t, spoiled, "limit 1", 0, api.ErrExists)
		}
		if a, b := plain.Line(line), spoiled.Line(line); !sameReply(a, b) || a.E != api.OK {
			t.Errorf("%q: %v, with faults ahead of it %v", line, a, b)
		}
	}
}

// An epoch that could not begin counts among those that were played: the world's numbers stay from then on, and its mishaps go on counting.
func TestP28_5_Refused(t *testing.T) {
	s := shell.New()
	says(t, s, "put 1 a x", "calm", "refuse 2 0")
	wantLines(t, "run", says(t, s, "run"), "refused 7")
	for _, line := range []string{"width 4", "sector 4", "limit 4"} {
		wantFault(t, s, line, 0, api.ErrExists)
	}
	wantFault(t, s, "audit", 0, api.ErrNone)
	wantLines(t, "nothing is laid up", says(t, s, "run"), "end "+wordsRoot(32, ledgerOf(t, 32).Root())+" 0")
	wantLines(t, "audit", says(t, s, "audit"), "nothing")
	says(t, s, "crash 1")
	wantLines(t, "run", says(t, s, "run"), "refused 12")
	wantFault(t, s, "audit", 0, api.ErrNone)
	script := scriptOf(lifeOf(true, []api.Call{appends(put("a", "x"))}), lifeOf(false), lifeOf(false), lifeOf(true, []api.Call{appends(put("b", "y"))}))
	script.Lives[0].Faults = []disk.Fault{{At: 2}}
	script.Lives[2].Crash = 1
	for at := 1; at < 14; at++ { // each operation of the next epoch is where it is by all those ahead of it
		script.Lives[3].Faults = []disk.Fault{{At: at}}
		s = shell.New()
		says(t, s, "put 1 a x", "calm", "refuse 2 0")
		says(t, s, "run")
		says(t, s, "run")
		says(t, s, "crash 1")
		says(t, s, "run")
		says(t, s, "put 1 b y", "calm", "refuse "+strconv.Itoa(at)+" 0")
		wantLines(t, "run", says(t, s, "run"), played(script)...)
	}
}

// Each kind of event has its words, each answer its own; at each width as many digits as it keeps.
func TestP28_5_Lines(t *testing.T) {
	for _, w := range []int{1, 4, 31, 32} {
		ledger := ledgerOf(t, w, put("a", "x y"))
		root := wordsRoot(w, ledger.Root())
		if len(root) != 2+2*w {
			t.Fatalf("%q", root)
		}
		receipt, _ := ledger.ReceiptKey([]byte("b"))
		s := shell.New()
		says(t, s, "width "+strconv.Itoa(w), "put 1 a x%20y", "pin 1", "get 1 a", "get 1 b", "key 1 b", "close 1", "get 1 a", "put 1 c z", "pick 1 1 0 0 0 0 0 1 1 1 1 1 1 1 1 1 1 1 0 1 1 1 1 1")
		wantLines(t, "run", says(t, s, "run"),
			"0 1 begin 0", "1 1 send 0", "2 0 take 1 1", "3 0 write 1", "4 0 sync", "5 0 publish 1", "6 0 reply 1 ok 0", "7 1 end 0 ok 0",
			"8 1 begin 1", "9 1 end 1 ok "+root, "10 1 begin 2", "11 1 end 2 ok x%20y", "12 1 begin 3", "13 1 end 3 none", "14 1 begin 4", "15 1 end 4 ok "+hex.EncodeToString(receipt),
			"16 1 begin 5", "17 1 send 5", "18 0 stop", "19 1 end 5 ok", "20 1 begin 6", "21 1 end 6 ok x%20y", "22 1 begin 7", "23 1 end 7 error 9",
			"end "+root+" 0")
		wantLines(t, "root", says(t, s, "root"), root)
		wantLines(t, "log", says(t, s, "log"), "put a x%20y")
		wantLines(t, "audit", says(t, s, "audit"), "nothing")
	}
}

// Two in a batch: the client of a take and of a reply, the batch's count and the size.
func TestP28_5_Batch(t *testing.T) {
	s := shell.New()
	says(t, s, "put 1 a x", "put 2 b y", "pick 1 2 2 1 0 0 0 0 0 0 0 2 1")
	wantLines(t, "run", says(t, s, "run"), "0 1 begin 0", "1 2 begin 0", "2 2 send 0", "3 1 send 0", "4 0 take 2 1", "5 0 take 1 2", "6 0 write 2", "7 0 sync", "8 0 publish 2", "9 0 reply 2 ok 0", "10 0 reply 1 ok 1", "11 2 end 0 ok 0", "12 1 end 0 ok 1",
		"end "+wordsRoot(32, ledgerOf(t, 32, put("b", "y"), put("a", "x")).Root())+" 0")
}

// The last line has the root that is published at the end, and the log's state then.
func TestP28_5_End(t *testing.T) {
	empty := wordsRoot(32, ledgerOf(t, 32).Root())
	for _, c := range []struct{ lines, end string }{
		{"pick 1 1 0 0 0", "end " + empty + " 0"}, {"pick 1 1 0 0 0 0", "end " + wordsRoot(32, ledgerOf(t, 32, put("a", "x")).Root()) + " 0"}, {"refuse 6 0/calm", "end " + empty + " 7"}, {"crash 6/calm", "end " + empty + " 12"},
	} {
		s := shell.New()
		says(t, s, append([]string{"put 1 a x"}, strings.Split(c.lines, "/")...)...)
		lines := says(t, s, "run")
		wantLines(t, c.lines, lines[len(lines)-1:], c.end)
	}
}

func TestP28_6_AtFirst(t *testing.T) {
	for _, w := range []int{1, 5, 32} {
		s := shell.New()
		says(t, s, "width "+strconv.Itoa(w), "put 1 a x", "calm")
		wantLines(t, "log", says(t, s, "log"))
		wantLines(t, "root", says(t, s, "root"), wordsRoot(w, ledgerOf(t, w).Root()))
		wantFault(t, s, "audit", 0, api.ErrNone)
	}
	if root := says(t, shell.New(), "root")[0]; len(root) != 66 {
		t.Errorf("a new shell's root: %q", root)
	}
}

// log, root and audit are of the epochs that were played, whatever is laid up, and change nothing.
func TestP28_6_Looking(t *testing.T) {
	s := shell.New()
	entries := []api.Entry{}
	for i := range 4 {
		key := strconv.Itoa(i)
		says(t, s, "put 1 k v"+key, "delete 2 "+key, "calm")
		says(t, s, "run")
		entries = append(entries, put("k", "v"+key), api.Entry{Kind: api.Delete, Key: []byte(key)})
		says(t, s, "put 1 z z", "crash 3", "pick 5", "cut")
		var log []string
		for _, e := range entries {
			log = append(log, map[byte]string{api.Put: "put k " + string(e.Value), api.Delete: "delete " + string(e.Key)}[e.Kind])
		}
		for range 2 {
			wantLines(t, "log", says(t, s, "log"), log...)
			wantLines(t, "root", says(t, s, "root"), wordsRoot(32, ledgerOf(t, 32, entries...).Root()))
			wantLines(t, "audit", says(t, s, "audit"), "nothing")
		}
		if lines := says(t, s, "run"); lines[0] != "refused 12" {
			t.Fatalf("what was laid up is gone: %q", lines)
		}
	}
}

// What is written and not published stands in the log that a recovery finds.
func TestP28_6_NotPublished(t *testing.T) {
	s := shell.New()
	says(t, s, "put 1 a x", "pick 1 1 0 0 0")
	if lines := says(t, s, "run"); !strings.HasPrefix(lines[len(lines)-1], "end 0 ") {
		t.Errorf("%q", lines)
	}
	wantLines(t, "log", says(t, s, "log"), "put a x")
	wantLines(t, "root", says(t, s, "root"), wordsRoot(32, ledgerOf(t, 32, put("a", "x")).Root()))
	wantLines(t, "audit", says(t, s, "audit"), "nothing")
}

func TestP28_3_Reset(t *testing.T) {
	s := shell.New()
	says(t, s, "sector 8", "width 4", "limit 1", "batch 1", "places 1", "put 1 a x", "calm")
	says(t, s, "run")
	says(t, s, "put 2 b y", "pick 2 2 2", "crash 1", "refuse 1 0", "cut", "names 3", "keep a 1", "calm")
	wantLines(t, "reset", says(t, s, "reset"))
	same := func(what string, lines ...string) {
		t.Helper()
		other := shell.New()
		for _, line := range lines {
			if a, b := s.Line(line), other.Line(line); !sameReply(a, b) {
				t.Errorf("%s: %q: %v, of a new one %v", what, line, a, b)
			}
		}
	}
	session := []string{"root", "log", "audit", "put 1 c z", "put 2 d w", "put 3 e u", "calm", "run", "log", "root", "audit", "width 7"}
	same("behind a run", session...)
	says(t, s, "reset", "width 4")
	same("once more", append([]string{"reset"}, session...)...)
}

func TestP28_7_NoShell(t *testing.T) {
	var none *shell.Shell
	for _, line := range []string{"", "log", "run", "what", "audit", "put 0 a b", strings.Repeat(" ", 401), "reset"} {
		if r := none.Line(line); !reflect.DeepEqual(r, shell.Reply{}) {
			t.Errorf("%q: %v", line, r)
		}
	}
}

// A Shell that New did not make is like a new one, whatever its first line is.
func TestP28_7_NotMade(t *testing.T) {
	session := []string{"root", "log", "put 1 a x", "calm", "run", "log", "audit", "width 3"}
	for _, first := range []string{"", "root", "log", "audit", "width 5", "sector 1", "limit 1", "batch 1", "places 1", "put 1 z z", "pin 2", "pick 1 1 0", "calm", "refuse 6 0", "crash 5", "cut", "names 1", "keep a 1", "run", "reset", "what", "put 0 a a", "batch 0", strings.Repeat("x", 401)} {
		var s shell.Shell
		zero := &shell.Shell{}
		made := shell.New()
		for _, line := range append([]string{first}, session...) {
			want := made.Line(line)
			if a, b := s.Line(line), zero.Line(line); !sameReply(a, want) || !sameReply(b, want) {
				t.Errorf("%q, %q: %v and %v, of a new one %v", first, line, a, b, want)
			}
		}
	}
}

func TestP28_8_Run(t *testing.T) {
	for _, c := range []struct {
		text    string
		replies int
	}{{"", 0}, {"\n", 1}, {"\n\n", 2}, {"calm", 1}, {"calm\n", 1}, {"calm\n\n", 2}, {"\ncalm", 2}, {"calm\ncut", 2}, {"calm\ncut\n", 2}, {"calm\n \n", 2}, {"calm\n ", 2}, {"calm\r\ncut\r\n", 2}, {" ", 1}} {
		if got := shell.Run(c.text); len(got) != c.replies {
			t.Errorf("%q: %d replies, want %d", c.text, len(got), c.replies)
		}
	}
	got := shell.Run("put 1 a x\nwhat\ncalm\nrun\r\n" + strings.Repeat("y", 401) + "\nrun\n\nlog\nput 1 a")
	want := []shell.Reply{{}, {E: api.ErrName}, {}, {E: api.ErrName}, {E: api.ErrLong}, {Lines: got[5].Lines}, {}, {Lines: []string{"put a x"}}, {E: api.ErrText, At: 7}}
	if !slices.EqualFunc(got, want, sameReply) || len(got[5].Lines) < 9 {
		t.Errorf("%v", got)
	}
	if again := shell.Run("log"); len(again) != 1 || len(again[0].Lines) != 0 {
		t.Errorf("another text sees the first one's shell: %v", again)
	}
	long := strings.Repeat("put 1 a x\n", 200)
	if got := shell.Run(long + "calm\nrun\nlog"); len(got) != 203 || len(got[202].Lines) != 200 {
		t.Errorf("%d replies", len(got))
	}
}

func TestP28_Examples(t *testing.T) {
	s := shell.New()
	says(t, s, "put 1 a x", "pin 1", "get 1 a", "close 1", "pick 1 1 0 0 0", "calm")
	lines := says(t, s, "run")
	wantLines(t, "run", lines[:6], "0 1 begin 0", "1 1 send 0", "2 0 take 1 1", "3 0 write 1", "4 0 sync", "5 0 publish 1")
	if !strings.HasPrefix(lines[len(lines)-1], "end 1") {
		t.Errorf("%q", lines)
	}
	wantLines(t, "log", says(t, s, "log"), "put a x")
	wantFault(t, s, "put 0 a x", 4, api.ErrArg)
	wantFault(t, s, "put 1 a", 7, api.ErrText)
	wantFault(t, s, "put 1 %4 x", 6, api.ErrText)
	wantFault(t, s, "width 4", 0, api.ErrExists)
	wantFault(t, s, "what", 0, api.ErrName)
	wantLines(t, "audit", says(t, s, "audit"), "nothing")

	replies := shell.Run("put 1 a x\ncalm\nrun\nlog") // the tenth example of the whole
	wantLines(t, "10", replies[3].Lines, "put a x")
}

// An answer is new memory: written over, it changes no other.
func TestMemory_Lines(t *testing.T) {
	s := shell.New()
	says(t, s, "put 1 a x", "put 1 b y", "calm")
	first := says(t, s, "run")
	kept := slices.Clone(first)
	for _, line := range []string{"log", "root", "audit"} {
		want := slices.Clone(says(t, s, line))
		lines := says(t, s, line)
		clear(lines[:cap(lines)])
		wantLines(t, line, says(t, s, line), want...)
	}
	wantLines(t, "run", first, kept...)
	clear(first[:cap(first)])
	wantLines(t, "log", says(t, s, "log"), "put a x", "put b y")
}

// Two shells know nothing of one another, and how goroutines run makes no difference.
func TestP2_ManyAtATime(t *testing.T) {
	text := "put 1 a x\nput 2 b y\npin 3\nget 3 a\ncalm\nrun\nput 1 c z\ncrash 7\ncalm\nrun\nlog\nroot\naudit"
	want := shell.Run(text)
	before := runtime.NumGoroutine()
	var all sync.WaitGroup
	for range 16 {
		all.Go(func() {
			if got := shell.Run(text); !slices.EqualFunc(got, want, sameReply) {
				t.Error("another answer")
			}
		})
	}
	all.Wait()
	for range 1000 { // one that has done its last word may not be gone yet
		if runtime.NumGoroutine() <= before {
			break
		}
		time.Sleep(time.Millisecond)
	}
	if after := runtime.NumGoroutine(); after > before {
		t.Errorf("%d goroutines, ahead of it %d", after, before)
	}
}

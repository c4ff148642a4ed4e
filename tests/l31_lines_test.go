package tests

import (
	"fmt"
	"slices"
	"strings"
	"sync"
	"testing"

	"loop.example/drawbar/impl"
)

// lines is a script, or an output, of these lines, each with its newline.
func lines(list ...string) string {
	var text strings.Builder
	for _, line := range list {
		text.WriteString(line + "\n")
	}
	return text.String()
}

// runLines is what a script prints, by the program; a panic that is seen outside is an error of the test.
func runLines(t *testing.T, text string) string {
	t.Helper()
	defer func() {
		if lost := recover(); lost != nil {
			t.Errorf("the script %q panics: %v", text, lost)
		}
	}()
	return impl.LinesRun(text)
}

// checkLines holds what a script prints against what it is to print.
func checkLines(t *testing.T, what, text, want string) {
	t.Helper()
	if got := runLines(t, text); got != want {
		t.Errorf("%s: the script\n%q prints\n%swant\n%s", what, text, got, want)
	}
}

// callCommands has the command of each kind of calls.
var callCommands = []string{"read", "write", "copy", "fetch", "store", "send", "take", "renew", "through"}

// numbersByText has every text of a number.
var numbersByText = func() map[string]int {
	out := map[string]int{}
	for n := range 100 {
		out[fmt.Sprintf("%d", n)], out[fmt.Sprintf("%02d", n)] = n, n
	}
	return out
}()

// rightOfText has every text of a right, made once.
var rightOfText = rightsByText()

// wantNumber is the number as which a word counts.
func wantNumber(word string) int {
	if n, ok := numbersByText[word]; ok {
		return n
	}
	return -1
}

func wantLabel(word string) (impl.Label, bool) {
	for _, row := range labelTexts {
		if row.text == word {
			return row.label, true
		}
	}
	return impl.Label{}, false
}

// wantLine is what the document says of a line: the objects after it, and what it prints.
func wantLine(table []impl.Thing, line string) ([]impl.Thing, string) {
	var words [5]string
	copy(words[:], strings.Split(line, " "))
	if after, printed, ok := wantCommand(copyTable(table), words); ok {
		return after, printed
	}
	return table, "what\n"
}

// wantCommand is wantLine, or false if the line has no effect.
func wantCommand(table []impl.Thing, words [5]string) ([]impl.Thing, string, bool) {
	for _, s := range shapes {
		if words[0] == s.name {
			after, ok := wantNew(table, s, words)
			return after, "", ok
		}
	}
	if i := slices.Index(callCommands, words[0]); i >= 0 {
		c := impl.Call{Kind: i + 1, Run: wantNumber(words[1]), A: wantNumber(words[2]), B: wantNumber(words[3]), N: wantNumber(words[4])}
		if !isProcess(table, c.Run) || !inside(c.A, [2]int{0, 3}) || !inside(c.B, [2]int{0, 3}) || c.N < 0 {
			return nil, "", false
		}
		after, answer := wantDo(table, c)
		return after, fmt.Sprintln(answer), true
	}
	if words[0] == "give" {
		after, ok := wantGive(table, words)
		return after, "", ok
	}
	observer, ok := wantLabel(words[1])
	return table, wantText(wantView(table, observer)), ok && words[0] == "see"
}

func wantNew(table []impl.Thing, s shape, words [5]string) ([]impl.Thing, bool) {
	made := s.plain()
	l, ok := wantLabel(words[1])
	made.Label = l
	if s.name == "gate" {
		made.To = wantNumber(words[2])
		ok = ok && inside(made.To, [2]int{1, len(table)}) && table[made.To-1].Kind == 1
	}
	return append(table, made), ok && len(table) < 8
}

func wantGive(table []impl.Thing, words [5]string) ([]impl.Thing, bool) {
	number, slot := wantNumber(words[1]), wantNumber(words[2])
	r, ok := rightOfText[words[3]]
	if !ok || !inside(number, [2]int{1, len(table)}) || !inside(slot, [2]int{0, shapes[table[number-1].Kind-1].rights - 1}) {
		return nil, false
	}
	if r != noRight && (r.Thing > len(table) || r.Vers > table[r.Thing-1].Vers) {
		return nil, false
	}
	table[number-1].Slots[slot] = r
	return table, true
}

// told is what the lines of a script print, each by itself, and the objects in the end.
type told struct {
	printed []string
	table   []impl.Thing
}

func wantTold(list []string) told {
	var out told
	for _, line := range list {
		after, printed := wantLine(out.table, line)
		out.table, out.printed = after, append(out.printed, printed)
	}
	return out
}

// text is the whole output.
func (x told) text() string {
	return strings.Join(x.printed, "") + wantText(x.table)
}

// wantLines is what the document says of a script.
func wantLines(text string) string {
	if len(text) > 500 {
		return "too long\n"
	}
	list := strings.SplitAfter(text, "\n")
	for i := range list {
		list[i] = strings.TrimSuffix(list[i], "\n")
	}
	return wantTold(list[:len(list)-1]).text()
}

// pick is one of a list.
func pick(luck *chance, list ...string) string {
	return list[luck.below(len(list))]
}

// numberText is a number in one of its texts.
func numberText(luck *chance, n int) string {
	return fmt.Sprintf(pick(luck, "%d", "%d", "%d", "%02d"), n)
}

// someNew is a line that creates an object: first a page, and then a process.
func someNew(luck *chance, table []impl.Thing, labelText string) string {
	kind := pick(luck, "page", "run", "run", "node", "node", "pipe", "pipe", "gate")
	if len(table) < 2 {
		kind = []string{"page", "run"}[len(table)]
	}
	if kind == "gate" {
		return "gate " + labelText + " " + numberText(luck, firstPage(table))
	}
	return kind + " " + labelText
}

// someGive is a line that gives a right, to the version that the object has most times.
func someGive(luck *chance, table []impl.Thing) string {
	to := someNumber(luck, table, 1, 2, 4, 5) - 1
	vers := table[to].Vers - luck.below(8)/7 + luck.below(12)/11
	r := fmt.Sprintf("%d.%d%s", to+1, max(vers, 0), pick(luck, "rw-", "rw-", "rw-", "-w-", "r--", "r-k", "---", "--k"))
	return fmt.Sprintf("give %s %s %s", numberText(luck, someNumber(luck, table, 2, 3)), numberText(luck, luck.below(4)), pick(luck, r, r, r, r, r, "-"))
}

// someNumber is the number of an object, of one of these kinds most times.
func someNumber(luck *chance, table []impl.Thing, kinds ...int) int {
	n := 0
	for range 12 {
		if n = luck.below(len(table)) + 1; slices.Contains(kinds, table[n-1].Kind) {
			break
		}
	}
	return n
}

// someCall is a line that makes a call, most times one that passes the check.
func someCall(luck *chance, table []impl.Thing) string {
	c := impl.Call{Kind: luck.below(9) + 1, Run: someNumber(luck, table, 3), A: luck.below(4), B: luck.below(4), N: luck.below(100)}
	var passing []impl.Call
	for i := range 9 * 4 * len(table) {
		other := impl.Call{Kind: i%9 + 1, Run: i/36 + 1, A: i / 9 % 4, B: c.B, N: c.N}
		if other.Kind != impl.CallCopy && wantCheck(table, other) == 0 {
			passing = append(passing, other)
		}
	}
	if len(passing) > 0 && luck.below(4) > 0 {
		c = passing[luck.below(len(passing))]
	}
	return fmt.Sprintf("%s %s %s %s %s", callCommands[c.Kind-1], numberText(luck, c.Run), numberText(luck, c.A), numberText(luck, c.B), numberText(luck, c.N))
}

// someSpoiled is a line in which one word is another one, is missing, or is there twice.
func someSpoiled(luck *chance, line string) string {
	words := strings.Split(line, " ")
	i := luck.below(len(words))
	switch luck.below(4) {
	case 0:
		return strings.Join(slices.Delete(words, i, i+1), " ")
	case 1:
		return strings.Join(slices.Insert(words, i, words[i]), " ")
	case 2:
		words[i] = pick(luck, "", "-", "0", "4", "8", "9", "99", "100", "0/0", "4/0", "1.0rw-", "9.0rw-", "what", "see", "give", "\t", "-1")
	default:
		words[i] += pick(luck, "", "0", " ", "x", "\r", "/", "-", "\x00", "\xff")
	}
	return strings.Join(words, " ")
}

// someLine is a line that mostly is possible for these objects.
func someLine(luck *chance, table []impl.Thing, labelText string) string {
	line := "see " + labelText
	switch dice := luck.below(100); {
	case len(table) < 2 || dice < 8 || len(table) < 5 && dice < 40:
		line = someNew(luck, table, labelText)
	case dice < 50:
		line = someGive(luck, table)
	case dice < 92:
		line = someCall(luck, table)
	}
	if luck.below(10) == 0 {
		return someSpoiled(luck, line)
	}
	return line
}

// someScript has lines as long as there is room for them.
func someScript(seed int) []string {
	luck := chance(seed)
	palette := palettes[seed%len(palettes)]
	var table []impl.Thing
	var out []string
	for length := 0; ; {
		l := palette[luck.below(len(palette)+2)%len(palette)]
		line := someLine(&luck, table, fmt.Sprintf("%d/%d", l.Secret, l.Vouch))
		if length += len(line) + 1; length > 500 {
			return out
		}
		table, _ = wantLine(table, line)
		out = append(out, line)
	}
}

// someScripts is made once; nothing may be changed in it.
var someScripts = sync.OnceValue(func() [][]string {
	var out [][]string
	for _, example := range lineExamples {
		out = append(out, example.script)
	}
	for seed := range 2000 {
		script := someScript(seed)
		// Short ones too, so that lines can be added.
		if seed%4 > 0 {
			script = script[:seed/4%len(script)]
		}
		out = append(out, script)
	}
	return out
})

// lineExample is a script with its output.
type lineExample struct {
	what   string
	script []string
	want   []string
}

// lineExamples has outputs that are written out.
var lineExamples = []lineExample{
	{"no line", nil, nil},
	{"the example of the given tests", []string{"page 0/0", "run 0/0", "give 2 1 1.0rw-", "hello", "write 2 1 0 9", "read 2 0 0 0"}, []string{"what", "0", "-1", "1 page 0/0 0 9", "2 run 0/0 0 -1 - 1.0rw- - -"}},

	{"a page", []string{"page 2/1"}, []string{"1 page 2/1 0 0"}},
	{"a node", []string{"node 1/2"}, []string{"1 node 1/2 0 0 - - - -"}},
	{"a process", []string{"run 3/0"}, []string{"1 run 3/0 0 0 - - - -"}},
	{"a pipe", []string{"pipe 0/3"}, []string{"1 pipe 0/3 0 0"}},
	{"a gate", []string{"page 0/0", "gate 3/3 1"}, []string{"1 page 0/0 0 0", "2 gate 3/3 0 0 >1"}},
	{"one of each kind", []string{"node 0/1", "pipe 0/2", "page 0/3", "run 1/0", "gate 1/1 3"}, []string{"1 node 0/1 0 0 - - - -", "2 pipe 0/2 0 0", "3 page 0/3 0 0", "4 run 1/0 0 0 - - - -", "5 gate 1/1 0 0 >3"}},
	{"gates to several pages", []string{"page 0/0", "page 1/0", "gate 0/0 2", "gate 0/0 1", "gate 0/0 02"}, []string{"1 page 0/0 0 0", "2 page 1/0 0 0", "3 gate 0/0 0 0 >2", "4 gate 0/0 0 0 >1", "5 gate 0/0 0 0 >2"}},
	{"eight objects", []string{"page 0/0", "page 0/1", "run 0/2", "node 0/3", "pipe 1/0", "gate 1/1 2", "run 1/2", "page 1/3"}, []string{"1 page 0/0 0 0", "2 page 0/1 0 0", "3 run 0/2 0 0 - - - -", "4 node 0/3 0 0 - - - -", "5 pipe 1/0 0 0", "6 gate 1/1 0 0 >2", "7 run 1/2 0 0 - - - -", "8 page 1/3 0 0"}},
	{"a ninth object of each kind", []string{"page 0/0", "page 0/0", "page 0/0", "page 0/0", "page 0/0", "page 0/0", "page 0/0", "page 0/0", "page 0/0", "node 0/0", "run 0/0", "pipe 0/0", "gate 0/0 1"}, []string{"what", "what", "what", "what", "what", "1 page 0/0 0 0", "2 page 0/0 0 0", "3 page 0/0 0 0", "4 page 0/0 0 0", "5 page 0/0 0 0", "6 page 0/0 0 0", "7 page 0/0 0 0", "8 page 0/0 0 0"}},

	{"a right in each slot of a process", []string{"page 0/0", "run 0/0", "give 2 0 1.0rw-", "give 2 1 1.0-w-", "give 2 2 1.0r-k", "give 2 3 2.0---"}, []string{"1 page 0/0 0 0", "2 run 0/0 0 0 1.0rw- 1.0-w- 1.0r-k 2.0---"}},
	{"a right in each slot of a node", []string{"node 0/0", "give 1 3 1.0rw-", "give 1 2 1.0r--", "give 1 1 1.0--k", "give 1 0 1.0-w-"}, []string{"1 node 0/0 0 0 1.0-w- 1.0--k 1.0r-- 1.0rw-"}},
	{"one right in place of another one, and none in place of a third", []string{"run 0/0", "give 1 0 1.0rw-", "give 1 1 1.0r--", "give 1 0 1.0--k", "give 1 1 -", "give 1 2 -"}, []string{"1 run 0/0 0 0 1.0--k - - -"}},
	{"rights to objects of every kind", []string{"run 0/0", "page 0/0", "node 0/0", "pipe 0/0", "gate 0/0 2", "give 1 0 2.0rw-", "give 1 1 3.0rw-", "give 1 2 4.0rw-", "give 1 3 5.0rw-", "give 3 0 1.0rw-"}, []string{"1 run 0/0 0 0 2.0rw- 3.0rw- 4.0rw- 5.0rw-", "2 page 0/0 0 0", "3 node 0/0 0 0 1.0rw- - - -", "4 pipe 0/0 0 0", "5 gate 0/0 0 0 >2"}},
	{"a right to what has another label", []string{"page 3/0", "run 0/3", "give 2 0 1.0rw-"}, []string{"1 page 3/0 0 0", "2 run 0/3 0 0 1.0rw- - - -"}},

	{"each call once", []string{"run 0/0", "page 0/0", "node 0/0", "pipe 0/0", "gate 0/0 2", "give 1 0 2.0rw-", "give 1 1 3.0rw-", "give 1 2 4.0rw-", "give 1 3 5.0-w-", "write 1 0 0 42", "read 1 0 0 0", "store 1 1 0 2", "copy 1 0 0 0", "fetch 1 1 0 6", "send 1 2 0 17", "send 1 2 0 18", "take 1 2 0 0", "through 1 3 0 99", "renew 1 2 0 0"},
		[]string{"0", "42", "0", "0", "0", "0", "0", "17", "0", "0", "1 run 0/0 0 0 2.0rw- 3.0rw- 4.0rw- 5.0-w-", "2 page 0/0 0 1", "3 node 0/0 0 0 - - 2.0rw- -", "4 pipe 0/0 1 0", "5 gate 0/0 0 1 >2"}},
	{"a result is the number of the process", []string{"run 0/0", "page 0/0", "give 1 0 2.0rw-", "write 1 0 0 42", "read 1 0 0 0", "see 0/0", "read 1 1 0 0"}, []string{"0", "42", "1 run 0/0 0 42 2.0rw- - - -", "2 page 0/0 0 42", "-1", "1 run 0/0 0 -1 2.0rw- - - -", "2 page 0/0 0 42"}},
	{"each result of a refused call", []string{"run 0/0", "page 1/0", "pipe 0/0", "give 1 0 2.0r--", "give 1 1 3.0rw-", "read 1 3 0 0", "read 1 0 0 0", "take 1 1 0 0", "renew 1 1 0 0", "send 1 1 0 5", "see 0/0"}, []string{"-1", "-2", "-4", "0", "-3", "1 run 0/0 0 -3 2.0r-- 3.0rw- - -", "2 page 1/0 0 0", "3 pipe 0/0 1 0", "1 run 0/0 0 -3 2.0r-- 3.0rw- - -", "2 page 1/0 0 0", "3 pipe 0/0 1 0"}},
	{"a refused call changes the number of its own process alone", []string{"run 0/0", "run 0/0", "write 2 0 0 9"}, []string{"-1", "1 run 0/0 0 0 - - - -", "2 run 0/0 0 -1 - - - -"}},
	{"slots A and B are not exchanged", []string{"page 0/0", "run 0/0", "give 2 1 1.0rw-", "copy 2 1 2 1", "copy 2 0 3 7"}, []string{"0", "0", "1 page 0/0 0 0", "2 run 0/0 0 0 - 1.0rw- 1.0r-k -"}},

	{"numbers of one digit and of two", []string{"page 0/0", "run 0/0", "give 02 01 1.0rw-", "write 2 1 0 9", "read 02 01 00 00", "write 2 1 0 09", "read 2 1 3 99", "write 2 01 03 00", "read 2 1 0 0", "write 2 1 0 10", "read 2 1 0 0", "write 2 1 0 99", "read 2 1 0 0"}, []string{"0", "9", "0", "9", "0", "0", "0", "10", "0", "99", "1 page 0/0 0 99", "2 run 0/0 0 99 - 1.0rw- - -"}},
	{"additional words", []string{"page 0/0 1", "run 0/0 0/0 hello", "gate 0/0 1 2", "node 0/0 ", "give 2 0 1.0rw- 1.0r--", "write 2 0 0 7 8", "read 2 0 0 0 ", "see 0/0 3/0", "pipe 0/0  "}, []string{"0", "7", "1 page 0/0 0 7", "2 run 0/0 0 7 1.0rw- - - -", "3 gate 0/0 0 0 >1", "4 node 0/0 0 0 - - - -", "1 page 0/0 0 7", "2 run 0/0 0 7 1.0rw- - - -", "3 gate 0/0 0 0 >1", "4 node 0/0 0 0 - - - -", "5 pipe 0/0 0 0"}},
	{"missing words", []string{"page", "run 0/0", "page 0/0", "gate 0/0", "gate", "give 1 0", "give 1", "give", "read 1 0 0", "read 1 0", "read 1", "read", "see"}, []string{"what", "what", "what", "what", "what", "what", "what", "what", "what", "what", "what", "1 run 0/0 0 0 - - - -", "2 page 0/0 0 0"}},
	{"two blanks between words", []string{"page 0/0", "run 0/0", "give 2 0 1.0rw-", "page  0/0", "gate 0/0  1", "gate  0/0 1", "give  2 1 1.0rw-", "give 2  1 1.0rw-", "give 2 1  1.0rw-", "read  2 0 0 0", "read 2  0 0 0", "read 2 0  0 0", "read 2 0 0  0", "see  0/0"}, []string{"what", "what", "what", "what", "what", "what", "what", "what", "what", "what", "what", "1 page 0/0 0 0", "2 run 0/0 0 0 1.0rw- - - -"}},
	{"a blank at the head", []string{" page 0/0", "page 0/0", " run 0/0", "  see 0/0", " see 0/0", " "}, []string{"what", "what", "what", "what", "what", "1 page 0/0 0 0"}},
	{"lines of nothing", []string{"", " ", "  ", "", "page 0/0", ""}, []string{"what", "what", "what", "what", "what", "1 page 0/0 0 0"}},

	{"to see each object, and none", []string{"page 1/0", "run 0/0", "give 2 0 1.0-w-", "write 2 0 0 8", "see 0/0", "see 1/0", "see 0/1"}, []string{"0", "1 page 1/0 0 0", "2 run 0/0 0 0 1.0-w- - - -", "1 page 1/0 0 8", "2 run 0/0 0 0 1.0-w- - - -", "1 page 1/0 0 0", "2 run 0/0 0 0 - - - -", "1 page 1/0 0 8", "2 run 0/0 0 0 1.0-w- - - -"}},
	{"to see no objects", []string{"see 0/0", "see 3/0", "see", "see 4/0", "see  0/0", "see 0/0 x"}, []string{"what", "what", "what"}},
	{"to see what changes", []string{"see 0/0", "pipe 0/0", "see 0/0", "run 0/0", "give 2 0 1.0rw-", "send 2 0 0 5", "see 0/0"}, []string{"1 pipe 0/0 0 0", "0", "1 pipe 0/0 0 0 <5", "2 run 0/0 0 0 1.0rw- - - -", "1 pipe 0/0 0 0 <5", "2 run 0/0 0 0 1.0rw- - - -"}},
	{"to see a right to a later version than the one shown", []string{"page 1/0", "run 0/0", "give 2 0 1.0-w-", "renew 2 0 0 0", "give 2 1 1.1rw-", "see 0/0", "see 1/0"}, []string{"0", "1 page 1/0 0 0", "2 run 0/0 0 0 1.0-w- 1.1rw- - -", "1 page 1/0 1 0", "2 run 0/0 0 0 1.0-w- 1.1rw- - -", "1 page 1/0 1 0", "2 run 0/0 0 0 1.0-w- 1.1rw- - -"}},
	{"to see a gate with a secret", []string{"page 0/0", "run 1/0", "gate 1/0 1", "give 2 0 3.0-w-", "through 2 0 0 1", "see 0/0"}, []string{"0", "1 page 0/0 0 1", "2 run 1/0 0 0 - - - -", "3 gate 1/0 0 0 >1", "1 page 0/0 0 1", "2 run 1/0 0 0 3.0-w- - - -", "3 gate 1/0 0 1 >1"}},
}

// TestP109Examples has scripts with outputs that are written out.
func TestP109Examples(t *testing.T) {
	for _, example := range lineExamples {
		checkLines(t, example.what, lines(example.script...), lines(example.want...))
		if got := wantLines(lines(example.script...)); got != lines(example.want...) {
			t.Errorf("%s: the tests take the output to be\n%s", example.what, got)
		}
	}
}

// TestP109EachLineEnds holds that an output has as many newlines as lines, none of them empty, and nothing behind the last one.
func TestP109EachLineEnds(t *testing.T) {
	most := 0
	for _, script := range someScripts() {
		text := runLines(t, lines(script...))
		x := wantTold(script)
		count := len(x.table)
		for i, line := range script {
			switch {
			case x.printed[i] == "":
			case strings.HasPrefix(line, "see ") && x.printed[i] != "what\n":
				count += len(wantTold(script[:i]).table)
			default:
				count++
			}
		}
		if strings.Count(text, "\n") != count || strings.Contains(text, "\n\n") || strings.HasPrefix(text, "\n") || text != "" && !strings.HasSuffix(text, "\n") {
			t.Errorf("the script %q prints %q, which is not %d lines", script, text, count)
		}
		most = max(most, count)
	}
	if most < 60 {
		t.Errorf("no script prints more than %d lines", most)
	}
}

// padded has scripts of a length, with the output that they have if they are not too long.
func padded(length int) map[string][2]string {
	start := lines("page 0/0", "run 0/0", "give 2 0 1.0rw-", "write 2 0 0 9")
	end := "1 page 0/0 0 9\n2 run 0/0 0 0 1.0rw- - - -\n"
	rest := length - len(start)
	words := start + "read 2 0 0 0 "
	return map[string][2]string{
		"nothing is a line":               {strings.Repeat("x", length), ""},
		"nothing is a line, zero bytes":   {strings.Repeat("\x00", length), ""},
		"nothing is a line, blanks":       {strings.Repeat(" ", length), ""},
		"all lines are empty":             {strings.Repeat("\n", length), strings.Repeat("what\n", length)},
		"one line":                        {strings.Repeat("x", length-1) + "\n", "what\n"},
		"one line of high bytes":          {strings.Repeat("\xc3", length-1) + "\n", "what\n"},
		"runes of two bytes":              {strings.Repeat("\u00e9", length/2) + strings.Repeat("x", length%2), ""},
		"runes of four bytes":             {strings.Repeat("\U0001f600", length/4) + strings.Repeat("x", length%4), ""},
		"a long line behind others":       {start + strings.Repeat("x", rest-1) + "\n", "0\nwhat\n" + end},
		"much behind the last newline":    {start + strings.Repeat("x", rest), "0\n" + end},
		"many empty lines behind others":  {start + strings.Repeat("\n", rest), "0\n" + strings.Repeat("what\n", rest) + end},
		"a line with many words":          {words + strings.Repeat("7 ", (length-len(words)-1)/2) + strings.Repeat(" ", (length-len(words)-1)%2) + "\n", "0\n9\n1 page 0/0 0 9\n2 run 0/0 0 9 1.0rw- - - -\n"},
		"a word that makes a line longer": {strings.Repeat("x", rest-1) + "\n" + start, "what\n0\n" + end},
	}
}

func TestP109Length(t *testing.T) {
	for length := 460; length <= 540; length++ {
		for what, script := range padded(length) {
			want := script[1]
			if length > 500 {
				want = "too long\n"
			}
			if len(script[0]) != length {
				t.Fatalf("%s: the script has %d bytes, want %d", what, len(script[0]), length)
			}
			checkLines(t, fmt.Sprintf("%s, %d bytes", what, length), script[0], want)
		}
	}
	for _, length := range []int{700, 756, 1000, 1012, 1 << 16, 1<<16 + 300, 1 << 20} {
		for what, script := range padded(length) {
			checkLines(t, fmt.Sprintf("%s, %d bytes", what, length), script[0], "too long\n")
		}
	}
}

// TestP109BehindTheLastNewline holds that what follows the last newline is ignored, whatever it is.
func TestP109BehindTheLastNewline(t *testing.T) {
	tails := []string{"x", "page 0/0", "run 3/0", "see 0/0", "see", "what", "write 2 0 0 7", "renew 2 0 0 0", "give 2 0 1.0rw-", " ", "  ", "\r", "\x00", "\xff", "\u2028", "\u0085", "\v", "\f", "\\n", "page 0/0\r", "page 0/0\x00", "hello page 0/0"}
	for _, tail := range tails {
		checkLines(t, "no newline", tail, "")
		checkLines(t, "a newline, and no more", tail+"\n", wantLines(tail+"\n"))
	}
	for _, example := range lineExamples {
		for _, tail := range tails {
			if len(lines(example.script...)+tail) <= 500 {
				checkLines(t, example.what+", and "+tail, lines(example.script...)+tail, lines(example.want...))
			}
		}
	}
	checkLines(t, "a newline alone", "\n", "what\n")
	checkLines(t, "an empty text", "", "")
}

// TestP109OnlyNewlinesEndLines has what could be taken for the end of a line.
func TestP109OnlyNewlinesEndLines(t *testing.T) {
	for _, end := range []string{"\r", "\v", "\f", "\x00", "\x1c", "\x85", "\u0085", "\u2028", "\u2029", ";", "\\n", "\t"} {
		checkLines(t, end, "page 0/0"+end+"page 0/0\n", "what\n")
		checkLines(t, end+" and a newline", "page 0/0"+end+"\npage 0/0\n", "what\n1 page 0/0 0 0\n")
		checkLines(t, end+" behind a blank", "page 0/0 "+end+"page 0/0\n", "1 page 0/0 0 0\n")
	}
	checkLines(t, "a newline and a carriage return", "page 0/0\n\rpage 0/0\n", "what\n1 page 0/0 0 0\n")
}

func TestP110EachKindAndLabel(t *testing.T) {
	behind := map[string]string{"page": "", "node": " - - - -", "run": " - - - -", "pipe": ""}
	for _, row := range labelTexts {
		for name, fields := range behind {
			checkLines(t, name, lines(name+" "+row.text), fmt.Sprintf("1 %s %s 0 0%s\n", name, row.text, fields))
		}
		for _, other := range labelTexts {
			checkLines(t, "gate", lines("page "+other.text, "gate "+row.text+" 1"), fmt.Sprintf("1 page %s 0 0\n2 gate %s 0 0 >1\n", other.text, row.text))
		}
	}
}

// TestP110OneByOne has objects of many kinds in many orders, and what is there after each of them.
func TestP110OneByOne(t *testing.T) {
	for i, kinds := range kindLists() {
		var script []string
		var table []impl.Thing
		for j, kind := range kinds {
			made := shapes[kind-1].plain()
			made.Label = allLabels()[(5*i+3*j)%16]
			line := fmt.Sprintf("%s %d/%d", shapes[kind-1].name, made.Label.Secret, made.Label.Vouch)
			script = append(script, line)
			if kind == 5 {
				made.To = firstPage(table)
				script[len(script)-1] = fmt.Sprintf("%s %d", line, made.To)
			}
			if kind == 5 && made.To == 0 {
				checkLines(t, "a gate before any page", lines(script...), "what\n"+wantText(table))
				script = script[:len(script)-1]
				continue
			}
			table = append(table, made)
			checkLines(t, "objects one by one", lines(script...), wantText(table))
		}
	}
}

// village is a script that creates eight objects, the last two of them processes and the one before a node, of which the first one is renewed some times.
func village(versions int) []string {
	out := []string{"page 0/0", "page 0/0", "pipe 0/0", "node 0/0", "gate 0/0 1", "node 0/0", "run 0/0", "run 0/0"}
	for vers := range versions {
		out = append(out, fmt.Sprintf("give 8 0 1.%d-w-", vers), "renew 8 0 0 0")
	}
	return out
}

// TestP110EachRight gives each right to a process and to a node, in each slot.
func TestP110EachRight(t *testing.T) {
	given := 0
	for versions := range 6 {
		base := wantTold(village(versions)).table
		if base[0].Vers != versions {
			t.Fatalf("the first object has the version %d, want %d", base[0].Vers, versions)
		}
		for text, r := range rightOfText {
			if versions > 0 && r.Thing != 1 {
				continue
			}
			for slot := range 4 {
				number := 6 + (slot+r.Vers)%2
				script := append(village(versions), fmt.Sprintf("give %d %d %s", number, slot, text))
				possible := r.Vers <= versions
				want := with(base, number-1, func(x *impl.Thing) {
					if possible {
						x.Slots[slot] = r
						given++
					}
				})
				printed := strings.Repeat("0\n", versions)
				if !possible {
					printed += "what\n"
				}
				checkLines(t, "a right", lines(script...), printed+wantText(want))
			}
		}
	}
	if given < 600 {
		t.Errorf("only %d rights were given", given)
	}
}

// TestP110AllScripts has many scripts, mostly of lines that are possible.
func TestP110AllScripts(t *testing.T) {
	ways := map[string]int{}
	for _, script := range someScripts() {
		checkLines(t, "a script", lines(script...), wantLines(lines(script...)))
		for i, printed := range wantTold(script).printed {
			command, _, _ := strings.Cut(script[i], " ")
			switch {
			case printed == "what\n":
				ways[command+" what"]++
			case slices.Contains(callCommands, command) && strings.HasPrefix(printed, "-"):
				ways[command+" "+printed]++
			default:
				ways[command]++
			}
		}
	}
	for _, command := range []string{"page", "node", "run", "pipe", "gate", "give", "see", "read", "write", "copy", "fetch", "store", "send", "take", "renew", "through"} {
		if ways[command] < 10 || ways[command+" what"] < 10 {
			t.Errorf("of the lines with %s, %d print no \"what\", and %d do", command, ways[command], ways[command+" what"])
		}
	}
	for _, answer := range []string{"read -1\n", "read -2\n", "read -3\n", "write -2\n", "store -1\n", "fetch -2\n", "send -4\n", "take -4\n", "renew -3\n", "through -1\n"} {
		if ways[answer] < 2 {
			t.Errorf("only %d calls are %q", ways[answer], answer)
		}
	}
}

// TestP111Secrets has a process and a page with and without a secret.
func TestP111Secrets(t *testing.T) {
	cases := []struct {
		page, run, write, read string
		num                    int
	}{
		{"0/0", "1/0", "-2", "0", 0},
		{"1/0", "0/0", "0", "-2", 7},
		{"1/0", "1/0", "0", "7", 7},
		{"0/0", "0/0", "0", "7", 7},
		{"0/0", "3/0", "-2", "0", 0},
		{"2/0", "0/0", "0", "-2", 7},
		{"1/0", "2/0", "-2", "-2", 0},
		{"0/1", "0/0", "-2", "0", 0},
		{"0/0", "0/1", "0", "-2", 7},
		{"0/2", "0/1", "-2", "-2", 0},
		{"0/3", "3/0", "-2", "0", 0},
		{"3/0", "0/3", "0", "-2", 7},
	}
	for _, c := range cases {
		script := lines("page "+c.page, "run "+c.run, "give 2 0 1.0rw-", "write 2 0 0 7", "read 2 0 0 0")
		want := fmt.Sprintf("%s\n%s\n1 page %s 0 %d\n2 run %s 0 %s 1.0rw- - - -\n", c.write, c.read, c.page, c.num, c.run, c.read)
		checkLines(t, "a process "+c.run+" and a page "+c.page, script, want)
	}
}

// TestP111AllLabels has all pairs of labels, and a process of each label that sees what was written.
func TestP111AllLabels(t *testing.T) {
	for _, object := range labelTexts {
		for _, process := range labelTexts {
			num, write, read := 9, "0", "-2"
			if flows(process.label, object.label) {
				num = 33
			} else {
				write = "-2"
			}
			if flows(object.label, process.label) {
				read = fmt.Sprint(num)
			}
			script := lines("page "+object.text, "run "+object.text, "run "+process.text, "give 2 0 1.0-w-", "write 2 0 0 9", "give 3 3 1.0rw-", "write 3 3 0 33", "read 3 3 0 0", "give 2 1 1.0r--", "read 2 1 0 0")
			want := fmt.Sprintf("0\n%s\n%s\n%d\n1 page %s 0 %d\n2 run %s 0 %d 1.0-w- 1.0r-- - -\n3 run %s 0 %s - - - 1.0rw-\n", write, read, num, object.text, num, object.text, num, process.text, read)
			checkLines(t, "a process "+process.text+" and a page "+object.text, script, want)
		}
	}
}

// TestP111EachUse has each call of a process by a right to an object with another label.
func TestP111EachUse(t *testing.T) {
	objects := []string{"page", "page", "", "node", "node", "pipe", "pipe", "pipe", "gate"}
	for i, command := range callCommands {
		if command == "copy" {
			continue
		}
		for _, object := range labelTexts {
			for _, process := range labelTexts {
				script := []string{"page 0/0", objects[i] + " " + object.text + " 1", "run " + process.text, "give 3 0 2.0rw-", command + " 3 0 1 5"}
				sees, touches := flows(object.label, process.label), flows(process.label, object.label)
				want := "0"
				if demands[i].observe && !sees || demands[i].modify && !touches {
					want = "-2"
				} else if command == "take" {
					want = "-4"
				}
				if got := runLines(t, lines(script...)); !strings.HasPrefix(got, want+"\n1 page") {
					t.Errorf("the script %q prints %q, want %s first", script, got, want)
				}
			}
		}
	}
}

// TestP112EachNumber passes each number through a gate.
func TestP112EachNumber(t *testing.T) {
	for n := range 100 {
		for _, text := range []string{fmt.Sprint(n), fmt.Sprintf("%02d", n)} {
			script := lines("page 0/0", "run 1/0", "gate 1/0 1", "give 2 0 3.0-w-", "through 2 0 0 "+text, "see 0/0")
			seen := fmt.Sprintf("1 page 0/0 0 %d\n2 run 1/0 0 0 - - - -\n3 gate 1/0 0 0 >1\n", n%2)
			want := "0\n" + seen + fmt.Sprintf("1 page 0/0 0 %d\n2 run 1/0 0 0 3.0-w- - - -\n3 gate 1/0 0 1 >1\n", n%2)
			checkLines(t, "through "+text, script, want)
		}
	}
}

// TestP112Counts passes several numbers through a gate.
func TestP112Counts(t *testing.T) {
	for count := range 25 {
		script := []string{"page 0/0", "run 1/0", "gate 1/0 1", "give 2 0 3.0-w-"}
		bit := 0
		for i := range count {
			bit = (i + count) % 3 % 2
			script = append(script, fmt.Sprintf("through 2 0 0 %d", bit+2*i))
		}
		want := strings.Repeat("0\n", count) + fmt.Sprintf("1 page 0/0 0 %d\n2 run 1/0 0 0 3.0-w- - - -\n3 gate 1/0 0 %d >1\n", bit, count)
		checkLines(t, "many numbers", lines(script...), want)
	}
}

// TestP112AllLabels has processes, gates and pages with labels of all sorts: what the label of the page is does not matter.
func TestP112AllLabels(t *testing.T) {
	for i, process := range labelTexts {
		for j, gate := range labelTexts {
			page := labelTexts[(5*i+3*j)%16]
			script := lines("page "+page.text, "run "+page.text, "give 2 0 1.0rw-", "write 2 0 0 50", "gate "+gate.text+" 01", "run "+process.text, "give 4 2 3.0-w-", "through 4 2 0 7", "read 2 0 0 0")
			answer, num, count := 0, 1, 1
			if !flows(process.label, gate.label) {
				answer, num, count = -2, 50, 0
			}
			want := fmt.Sprintf("0\n%d\n%d\n1 page %s 0 %d\n2 run %s 0 %d 1.0rw- - - -\n3 gate %s 0 %d >1\n4 run %s 0 %d - - 3.0-w- -\n", answer, num, page.text, num, page.text, num, gate.text, count, process.text, answer)
			checkLines(t, "a process "+process.text+" and a gate "+gate.text, script, want)
		}
	}
}

// TestP112NoOtherWay holds that the same process cannot write the page without the gate, nor through a gate by a right that is not writable.
func TestP112NoOtherWay(t *testing.T) {
	start := []string{"page 0/0", "run 1/0", "gate 1/0 1", "give 2 0 1.0rw-", "give 2 1 3.0r--"}
	end := []string{"1 page 0/0 0 0", "2 run 1/0 0 %s 1.0rw- 3.0r-- - -", "3 gate 1/0 0 0 >1"}
	for _, c := range [][2]string{{"write 2 0 0 1", "-2"}, {"renew 2 0 0 0", "-2"}, {"through 2 0 0 1", "-1"}, {"through 2 1 0 1", "-1"}, {"through 2 2 0 1", "-1"}, {"write 2 1 0 1", "-1"}} {
		checkLines(t, c[0], lines(append(start, c[0])...), c[1]+"\n"+fmt.Sprintf(lines(end...), c[1]))
	}
}

// TestP113EachRight fetches each right by each right to a node, and uses it.
func TestP113EachRight(t *testing.T) {
	for _, through := range rightLetters {
		for _, held := range rightLetters {
			fetched, fetch := "-", "-1"
			if through[0] == 'r' {
				fetched, fetch = "1.0"+held, "0"
			}
			if through == "r-k" {
				fetched = "1.0" + lettersLess[held][1]
			}
			write, read, num := "-1", "-1", 8
			if strings.Contains(fetched, "w") {
				write, num = "0", 77
			}
			if strings.Contains(fetched, "r") {
				read = fmt.Sprint(num)
			}
			script := lines("page 0/0", "node 0/0", "run 0/0", "give 3 3 1.0-w-", "write 3 3 0 8", "give 3 3 -", "give 2 2 1.0"+held, "give 3 0 2.0"+through, "fetch 3 0 1 2", "write 3 1 0 77", "read 3 1 0 0")
			want := fmt.Sprintf("0\n%s\n%s\n%s\n1 page 0/0 0 %d\n2 node 0/0 0 0 - - 1.0%s -\n3 run 0/0 0 %s 2.0%s %s - -\n", fetch, write, read, num, held, read, through, fetched)
			checkLines(t, "1.0"+held+" by 2.0"+through, script, want)
		}
	}
}

// TestP113FurtherOn fetches by a right that was fetched by a weak one, and by one that was fetched by another one.
func TestP113FurtherOn(t *testing.T) {
	start := []string{"page 0/0", "node 0/0", "node 0/0", "run 0/0", "give 2 0 3.0rw-", "give 3 1 1.0rw-"}
	fetch := []string{"fetch 4 0 1 0", "fetch 4 1 2 1", "write 4 2 0 5", "store 4 1 0 2"}
	cases := []struct{ given, printed, first, second, num, stored string }{
		{"2.0rw-", "0\n0\n0\n0\n", "3.0rw-", "1.0rw-", "5", "2.0rw-"},
		{"2.0r--", "0\n0\n0\n0\n", "3.0rw-", "1.0rw-", "5", "2.0r--"},
		{"2.0r-k", "0\n0\n-1\n-1\n", "3.0r-k", "1.0r-k", "0", "-"},
	}
	for _, c := range cases {
		script := append(append(slices.Clone(start), "give 4 0 "+c.given), fetch...)
		result := strings.TrimSuffix(c.printed, "\n")
		result = result[strings.LastIndex(result, "\n")+1:]
		want := c.printed + fmt.Sprintf("1 page 0/0 0 %s\n2 node 0/0 0 0 3.0rw- - - -\n3 node 0/0 0 0 - 1.0rw- %s -\n4 run 0/0 0 %s %s %s %s -\n", c.num, c.stored, result, c.given, c.first, c.second)
		checkLines(t, "by "+c.given, lines(script...), want)
	}
}

func TestP114RenewedPage(t *testing.T) {
	script := []string{"page 0/0", "run 0/0", "run 0/0", "give 2 0 1.0rw-", "give 3 1 1.0r--", "write 2 0 0 42", "renew 2 0 0 0", "read 2 0 0 0", "read 3 1 0 0", "write 2 0 0 7", "renew 2 0 0 0", "see 0/0", "give 3 2 1.1rw-", "read 3 2 0 0", "write 3 2 0 8", "read 2 0 0 0"}
	seen := []string{"1 page 0/0 1 0", "2 run 0/0 0 -3 1.0rw- - - -", "3 run 0/0 0 -3 - 1.0r-- - -"}
	end := []string{"1 page 0/0 1 8", "2 run 0/0 0 -3 1.0rw- - - -", "3 run 0/0 0 0 - 1.0r-- 1.1rw- -"}
	checkLines(t, "a renewed page", lines(script...), lines("0", "0", "-3", "-3", "-3", "-3")+lines(seen...)+lines("0", "0", "-3")+lines(end...))
}

// TestP114EachVersion renews objects up to the last version.
func TestP114EachVersion(t *testing.T) {
	fields := map[string]string{"page": "", "node": " - - - -", "pipe": ""}
	for name, behind := range fields {
		script := []string{name + " 0/0", "run 0/0"}
		printed := ""
		for vers := range 6 {
			script = append(script, fmt.Sprintf("give 2 0 1.%drw-", vers), "renew 2 0 0 0")
			answer := "0"
			if vers == 5 {
				answer = "-4"
			}
			printed += answer + "\n"
			end := fmt.Sprintf("1 %s 0/0 %d 0%s\n2 run 0/0 0 %s 1.%drw- - - -\n", name, min(vers+1, 5), behind, answer, vers)
			checkLines(t, "a renewed "+name, lines(script...), printed+end)
			for later := vers + 2; later <= 7; later++ {
				checkLines(t, "a version that has not been", lines(append(script, fmt.Sprintf("give 2 1 1.%dr--", later))...), printed+"what\n"+end)
			}
		}
	}
}

// TestP114RenewedContents renews what is not empty.
func TestP114RenewedContents(t *testing.T) {
	script := []string{"node 1/0", "pipe 1/0", "run 0/0", "give 1 0 3.0rw-", "give 1 3 1.0r-k", "give 3 0 1.0-w-", "give 3 1 2.0-w-", "send 3 1 0 1", "send 3 1 0 2", "see 1/0", "renew 3 0 0 0", "renew 3 1 0 0", "send 3 1 0 3"}
	before := []string{"1 node 1/0 0 0 3.0rw- - - 1.0r-k", "2 pipe 1/0 0 0 <1 <2", "3 run 0/0 0 0 1.0-w- 2.0-w- - -"}
	after := []string{"1 node 1/0 1 0 - - - -", "2 pipe 1/0 1 0", "3 run 0/0 0 0 1.0-w- 2.0-w- - -"}
	checkLines(t, "what cannot be observed", lines(script...), lines("0", "0")+lines(before...)+lines("0", "0", "0")+lines(after...))
}

func TestP114Pipe(t *testing.T) {
	script := []string{"pipe 0/0", "run 0/0", "give 2 0 1.0rw-", "take 2 0 0 0", "send 2 0 0 7", "send 2 0 0 0", "send 2 0 0 99", "see 0/0", "send 2 0 0 5", "take 2 0 0 0", "send 2 0 0 6", "send 2 0 0 6", "take 2 0 0 0", "take 2 0 0 0", "see 0/0", "take 2 0 0 0", "take 2 0 0 0", "send 2 0 0 1"}
	full := []string{"1 pipe 0/0 0 0 <7 <0 <99", "2 run 0/0 0 0 1.0rw- - - -"}
	one := []string{"1 pipe 0/0 0 0 <6", "2 run 0/0 0 99 1.0rw- - - -"}
	end := []string{"1 pipe 0/0 0 0 <1", "2 run 0/0 0 0 1.0rw- - - -"}
	checkLines(t, "a pipe", lines(script...), lines("-4", "0", "0", "0")+lines(full...)+lines("-4", "7", "0", "-4", "0", "99")+lines(one...)+lines("6", "-4", "0")+lines(end...))
}

// TestP114EachNumber sends each number, and takes it.
func TestP114EachNumber(t *testing.T) {
	for n := range 100 {
		script := []string{"pipe 0/0", "run 0/0", "give 2 0 1.0rw-", fmt.Sprintf("send 2 0 0 %02d", n), fmt.Sprintf("send 2 0 0 %d", 99-n), "take 2 0 0 0"}
		checkLines(t, "a number", lines(script...), fmt.Sprintf("0\n0\n%d\n1 pipe 0/0 0 0 <%d\n2 run 0/0 0 %d 1.0rw- - - -\n", n, 99-n, n))
	}
}

// TestP114Capacity sends numbers to a pipe that the process cannot observe, and that another one looks into.
func TestP114Capacity(t *testing.T) {
	for count := range 8 {
		script := []string{"pipe 1/0", "run 0/0", "give 2 0 1.0-w-"}
		queue := ""
		for i := range count {
			script = append(script, fmt.Sprintf("send 2 0 0 %d", 10+i))
			if i < 3 {
				queue += fmt.Sprintf(" <%d", 10+i)
			}
		}
		printed := strings.Repeat("0\n", count)
		run := "2 run 0/0 0 0 1.0-w- - - -\n"
		checkLines(t, "a pipe that is full", lines(append(script, "see 0/0", "see 1/0")...), printed+"1 pipe 1/0 0 0\n"+run+"1 pipe 1/0 0 0"+queue+"\n"+run+"1 pipe 1/0 0 0"+queue+"\n"+run)
	}
}

// The words of a wrong kind.
var (
	noNumbers = []string{"", "-", "-1", "-0", "+1", "+", "000", "001", "010", "099", "100", "1000", "00000000000000000001", "18446744073709551617", "1a", "a1", "a", "x", "1.", ".1", "1,", "1_", "_1", "0x", "0b", "0o", "1e", "1\t", "\t1", "1\r", "1\v", "1\x00", "\x001", "\x00", "\xff", "1\xff", "\xb1", "/", ":", "1:", "/1", "\u0661", "\u0661\u0661", "\uff11", "\u00b9", "\u00a01", "one", "1-", "--", "1/0", "1.0rw-"}
	noLabels  = []string{"", "0", "0/", "/0", "/", "4/0", "0/4", "4/4", "9/9", "00/0", "0/00", "01/1", "-1/0", "0/-1", "+1/0", "0-0", "0.0", "0\\0", "0:0", "0/0/0", "0/0/", "//", "0/0x", "x0/0", "a/b", "0/0\t", "\t0/0", "0/0\r", "0/0\x00", "\x000/0", "0\x00/0", "0/\xff", "\uff10/0", "\u0660/0", "0\u22150", "-", "zero"}
	noRights  = []string{"", "--", "---", "1", "1.0", "1.", ".0rw-", "1.0rw", "1.0rw--", "1.0rwk", "1.0-wk", "1.0wr-", "1.0RW-", "1.0Rw-", "1.0rw ", "1,0rw-", "10rw-", "1.0 rw-", "01.0rw-", "1.00rw-", "+1.0rw-", "1.+0rw-", "1.-0rw-", "-1.0rw-", "0.0---", "0.0rw-", "0.1---", "9.0rw-", "1.6rw-", "1.9r--", "1.0rw-x", "x1.0rw-", "1.0rw-\t", "\t1.0rw-", "1.0rw-\r", "1.0rw-\x00", "\x00", "-\x00", "-\r", "1.0\xff\xff\xff", "\xff", "1.0rxk", "1.0___", "1.0kr-", "1.0--w", "1.0-r-", "\uff11.0rw-", "1.0rw\u2013", "\u2013", "\u2212", "null", "0", "0/0"}
	noNames   = []string{"", "what", "hello", "too", "too long", "pag", "pages", "pagepage", "age", "Page", "PAGE", "pAge", "page\t", "\tpage", "page\r", "page\x00", "\x00page", "page\xff", "\xffpage", "pag\xe9", "p\u0430ge", "page,", "page:", "page/", "nod", "nodes", "Node", "ru", "runs", "Run", "RUN", "pip", "pipes", "Pipe", "gat", "gates", "Gate", "giv", "gives", "Give", "rea", "reads", "Read", "READ", "writ", "writes", "Write", "cop", "copyright", "Copy", "fetc", "fetches", "Fetch", "stor", "stores", "Store", "sen", "sends", "Send", "tak", "takes", "Take", "rene", "renews", "Renew", "throug", "throughout", "thru", "Through", "se", "sees", "seesee", "See", "SEE", "see\t", "\tsee", "see\r", "see\x00", "see\u00a0", "\u00a0see", "\ufeffsee", "se\u00e9", "view", "call", "pass", "0", "1", "-", "0/0", "1.0rw-", "\t", "\r", "\x00", "\x7f", "\x80", "\xff\xfe", "\u00e9", "\U0001f600"}
)

// town is a script that creates objects of all kinds that are in use, of which 3 is a process, and has room for one object more.
var town = []string{"page 0/0", "node 0/0", "run 0/0", "pipe 0/0", "gate 0/0 1", "page 1/0", "run 1/0", "give 3 0 1.0rw-", "give 3 1 2.0rw-", "give 3 2 4.0rw-", "give 3 3 5.0-w-", "write 3 0 0 42", "store 3 1 0 2", "send 3 2 0 17"}

// hamlet is a script that creates fewer objects, so that there is room for more lines.
var hamlet = []string{"page 0/0", "run 0/0", "give 2 1 1.0rw-"}

// badLines has lines that are never possible, whatever objects there are; in a town, most of them would be with another word in the place of one.
func badLines() []string {
	var out []string
	for _, name := range noNames {
		for _, rest := range []string{"", " 0/0", " 3 0 1 2", " 3 0 1.0rw-", " 0/0 1"} {
			out = append(out, name+rest)
		}
	}
	for _, word := range noLabels {
		for _, name := range []string{"page", "node", "run", "pipe", "see"} {
			out = append(out, name+" "+word, name+" "+word+" 0/0", name+" "+word+" 1")
		}
		out = append(out, "gate "+word+" 1")
	}
	for _, word := range noNumbers {
		out = append(out, "gate 0/0 "+word, "give "+word+" 0 1.0rw-", "give 3 "+word+" 1.0rw-")
		for _, command := range callCommands {
			for i := range 4 {
				words := []string{"3", "0", "1", "2"}
				words[i] = word
				out = append(out, command+" "+strings.Join(words, " "))
			}
		}
	}
	for _, word := range noRights {
		out = append(out, "give 3 0 "+word, "give 2 3 "+word)
	}
	return out
}

// checkWhat holds that a line behind others prints "what", and neither it nor what follows it changes anything else.
func checkWhat(t *testing.T, before []string, line string, after ...string) {
	t.Helper()
	text := lines(before...) + line + "\n" + lines(after...)
	x := wantTold(slices.Concat(before, after))
	want := strings.Join(x.printed[:len(before)], "") + "what\n" + strings.Join(x.printed[len(before):], "") + wantText(x.table)
	if len(text) > 500 {
		t.Fatalf("the script %q is too long", text)
	}
	checkLines(t, fmt.Sprintf("the line %q", line), text, want)
}

// TestP115BadLines has lines that are never possible.
func TestP115BadLines(t *testing.T) {
	bad := badLines()
	if len(bad) < 2500 {
		t.Errorf("there are only %d lines", len(bad))
	}
	for _, line := range bad {
		checkWhat(t, nil, line)
		checkWhat(t, nil, line, "page 0/0", "see 0/0")
		checkWhat(t, town, line, "see 1/0", "read 3 0 0 0", "page 2/2")
		checkWhat(t, hamlet, line, "write 2 1 0 9", "give 2 1 2.0---")
	}
}

// TestP115EachLineOfAScript puts lines that are never possible between any two lines of others.
func TestP115EachLineOfAScript(t *testing.T) {
	bad := badLines()
	count := 0
	for i, script := range someScripts() {
		for at := range len(script) + 1 {
			line := bad[(31*i+17*at)%len(bad)]
			if len(lines(script...))+len(line)+1 > 500 {
				continue
			}
			checkWhat(t, script[:at], line, script[at:]...)
			count++
		}
	}
	if count < 10000 {
		t.Errorf("only %d lines were put between others", count)
	}
}

// TestP115ManyBadLines has lines that are never possible one behind the other.
func TestP115ManyBadLines(t *testing.T) {
	bad := badLines()
	for i := range bad {
		script := slices.Clone(hamlet)
		for j := 0; j < 12 && len(lines(script...)) < 440; j++ {
			script = append(script, bad[(i+7*j)%len(bad)])
		}
		script = append(script, "write 2 1 0 9")
		if text := lines(script...); len(text) <= 500 {
			checkLines(t, "many lines", text, strings.Repeat("what\n", len(script)-len(hamlet)-1)+"0\n1 page 0/0 0 9\n2 run 0/0 0 0 - 1.0rw- - -\n")
		}
	}
}

// TestP115Objects has objects, slots and processes that are there and that are not.
func TestP115Objects(t *testing.T) {
	end := wantTold(town).table
	for number := range 100 {
		for slot := range 100 {
			line := fmt.Sprintf("give %d %d 1.0r--", number, slot)
			if slices.Contains([]int{2, 3, 7}, number) && slot < 4 {
				want := with(end, number-1, func(x *impl.Thing) { x.Slots[slot] = right(1, 0, "r--") })
				checkLines(t, line, lines(append(slices.Clone(town), line)...), "0\n0\n0\n"+wantText(want))
				continue
			}
			checkWhat(t, town, line, "see 0/0")
		}
		for _, command := range callCommands {
			line := fmt.Sprintf("%s %d 0 0 0", command, number)
			if number != 3 && number != 7 {
				checkWhat(t, town, line, "see 0/0")
				continue
			}
			got := runLines(t, lines(append(slices.Clone(town), line)...))
			if strings.Contains(got, "what") || strings.Count(got, "\n") != 4+7 {
				t.Errorf("%q prints %q", line, got)
			}
		}
		if number != 1 && number != 6 {
			checkWhat(t, town, fmt.Sprintf("gate 0/0 %d", number), "see 0/0")
			continue
		}
		checkLines(t, "a gate", lines(append(slices.Clone(town), fmt.Sprintf("gate 3/1 %d", number))...), "0\n0\n0\n"+wantText(end)+fmt.Sprintf("8 gate 3/1 0 0 >%d\n", number))
	}
}

// TestP115Slots has each pair of slots of each call.
func TestP115Slots(t *testing.T) {
	for _, command := range callCommands {
		for a := range 100 {
			for b := range 100 {
				if a > 5 && b > 5 && a != b {
					continue
				}
				line := fmt.Sprintf("%s 3 %d %d 2", command, a, b)
				if a > 3 || b > 3 {
					checkWhat(t, town, line)
					continue
				}
				if got := runLines(t, lines(append(slices.Clone(town), line)...)); got != wantLines(lines(append(slices.Clone(town), line)...)) || strings.Contains(got, "what") {
					t.Errorf("%q prints %q", line, got)
				}
			}
		}
		for n := range 100 {
			for _, format := range []string{"%s 3 0 1 %d", "%s 3 0 1 %02d", "%s 03 00 01 %02d"} {
				script := append(slices.Clone(town), fmt.Sprintf(format, command, n))
				checkLines(t, "a number", lines(script...), wantLines(lines(fmt.Sprintf("%s\n%s 3 0 1 %d", strings.Join(town, "\n"), command, n))))
			}
		}
	}
}

// TestP115Rights has capabilities that are possible and that are not, where they are given.
func TestP115Rights(t *testing.T) {
	cases := []struct {
		what   string
		script []string
		want   []string
	}{
		{"to an object that does not exist yet", []string{"run 0/0", "give 1 0 2.0rw-", "page 0/0", "give 1 0 2.0rw-"}, []string{"what", "1 run 0/0 0 0 2.0rw- - - -", "2 page 0/0 0 0"}},
		{"to the last object that there can be", []string{"run 0/0", "give 1 0 8.0---"}, []string{"what", "1 run 0/0 0 0 - - - -"}},
		{"to a version that the object has not had", []string{"run 0/0", "page 0/0", "give 1 0 2.1rw-", "give 1 1 2.0rw-", "renew 1 1 0 0", "give 1 0 2.1rw-", "give 1 2 2.2rw-", "give 1 3 2.0r--"}, []string{"what", "0", "what", "1 run 0/0 0 0 2.1rw- 2.0rw- - 2.0r--", "2 page 0/0 1 0"}},
		{"to a later version of a process", []string{"run 0/0", "give 1 0 1.1rw-", "give 1 0 1.0rw-"}, []string{"what", "1 run 0/0 0 0 1.0rw- - - -"}},
		{"to a later version of a gate", []string{"run 0/0", "page 0/0", "gate 0/0 2", "give 1 0 3.1-w-", "give 1 1 3.0-w-"}, []string{"what", "1 run 0/0 0 0 - 3.0-w- - -", "2 page 0/0 0 0", "3 gate 0/0 0 0 >2"}},
		{"both weak and writable", []string{"run 0/0", "give 1 0 1.0rwk", "give 1 0 1.0-wk", "give 1 0 1.0r-k"}, []string{"what", "what", "1 run 0/0 0 0 1.0r-k - - -"}},
		{"to a page", []string{"page 0/0", "give 1 0 1.0rw-", "give 1 0 -", "give 1 3 -"}, []string{"what", "what", "what", "1 page 0/0 0 0"}},
		{"to a pipe", []string{"pipe 0/0", "give 1 0 1.0rw-", "give 1 0 -"}, []string{"what", "what", "1 pipe 0/0 0 0"}},
		{"to a gate", []string{"page 0/0", "gate 0/0 1", "give 2 0 1.0rw-", "give 2 0 -"}, []string{"what", "what", "1 page 0/0 0 0", "2 gate 0/0 0 0 >1"}},
		{"while there are no objects", []string{"give 1 0 1.0rw-", "give 1 0 -", "give 0 0 -"}, []string{"what", "what", "what"}},
		{"one that was there stays", []string{"run 0/0", "give 1 0 1.0rw-", "give 1 0 2.0rw-", "give 1 0 1.1rw-", "give 1 0 x", "give 1 0"}, []string{"what", "what", "what", "what", "1 run 0/0 0 0 1.0rw- - - -"}},
		{"to slots that are not there", []string{"node 0/0", "give 1 4 1.0r--", "give 1 5 -", "give 1 03 1.0r--", "give 1 99 1.0r--", "give 1 -1 1.0r--"}, []string{"what", "what", "what", "what", "1 node 0/0 0 0 - - - 1.0r--"}},
	}
	for _, c := range cases {
		checkLines(t, c.what, lines(c.script...), lines(c.want...))
	}
}

// TestP115Gates has targets of gates, possible and not.
func TestP115Gates(t *testing.T) {
	cases := []struct {
		what   string
		script []string
		want   []string
	}{
		{"nothing", []string{"gate 0/0 0", "gate 0/0 00", "gate 0/0", "gate 0/0 "}, []string{"what", "what", "what", "what"}},
		{"itself, as the first object", []string{"gate 0/0 1"}, []string{"what"}},
		{"itself", []string{"page 0/0", "gate 0/0 2"}, []string{"what", "1 page 0/0 0 0"}},
		{"an object that does not exist yet", []string{"page 0/0", "gate 0/0 3", "page 0/0", "gate 0/0 2"}, []string{"what", "1 page 0/0 0 0", "2 page 0/0 0 0", "3 gate 0/0 0 0 >2"}},
		{"an object that cannot be", []string{"page 0/0", "gate 0/0 9", "gate 0/0 99", "gate 0/0 100", "gate 0/0 -1", "gate 0/0 257"}, []string{"what", "what", "what", "what", "what", "1 page 0/0 0 0"}},
		{"another gate", []string{"page 0/0", "gate 0/0 1", "gate 0/0 2"}, []string{"what", "1 page 0/0 0 0", "2 gate 0/0 0 0 >1"}},
		{"a node", []string{"node 0/0", "gate 0/0 1"}, []string{"what", "1 node 0/0 0 0 - - - -"}},
		{"a process", []string{"run 0/0", "gate 0/0 1"}, []string{"what", "1 run 0/0 0 0 - - - -"}},
		{"a pipe", []string{"pipe 0/0", "gate 0/0 1"}, []string{"what", "1 pipe 0/0 0 0"}},
		{"a page, with a malformed label", []string{"page 0/0", "gate 4/0 1", "gate 1 1", "gate 1", "gate 1 0/0"}, []string{"what", "what", "what", "what", "1 page 0/0 0 0"}},
	}
	for _, c := range cases {
		checkLines(t, c.what, lines(c.script...), lines(c.want...))
	}
}

// TestP115NoObjects has each command while there are no objects.
func TestP115NoObjects(t *testing.T) {
	for _, command := range callCommands {
		for number := range 10 {
			checkWhat(t, nil, fmt.Sprintf("%s %d 0 0 0", command, number))
		}
		checkWhat(t, []string{"page 0/0"}, command+" 1 0 0 0", "see 0/0")
	}
	for _, row := range labelTexts {
		checkLines(t, "see", lines("see "+row.text), "")
		checkLines(t, "see", lines("see "+row.text, "page 0/0"), "1 page 0/0 0 0\n")
	}
}

// TestP115NinthObject has a line that creates an object, of each kind, behind eight others.
func TestP115NinthObject(t *testing.T) {
	for _, kinds := range kindLists() {
		if len(kinds) != 8 {
			continue
		}
		script := []string{"page 1/1"}
		for _, kind := range kinds[1:] {
			script = append(script, shapes[kind-1].name+" 0/0 1")
		}
		for _, name := range []string{"page", "node", "run", "pipe", "gate"} {
			checkWhat(t, script, name+" 0/0 1", "see 3/0")
			checkLines(t, "the eighth object", lines(append(slices.Clone(script[:7]), name+" 0/0 1")...), wantLines(lines(append(slices.Clone(script[:7]), name+" 0/0 1")...)))
		}
	}
}

// TestP115SeeEachLabel looks at objects of each label with every label.
func TestP115SeeEachLabel(t *testing.T) {
	seen := 0
	for _, observer := range labelTexts {
		for _, rows := range [][]int{{0, 1, 2, 3, 4, 5}, {6, 7, 8, 9, 10, 11}, {10, 11, 12, 13, 14, 15}} {
			script := []string{"page 0/0", "run " + observer.text}
			for _, row := range rows {
				script = append(script, "node "+labelTexts[row].text)
			}
			for number := 3; number <= 8; number++ {
				script = append(script, fmt.Sprintf("give %d %d %d.0r-k", number, number%4, number))
			}
			x := wantTold(script)
			view := wantText(wantView(x.table, observer.label))
			checkLines(t, "see "+observer.text, lines(append(script, "see "+observer.text)...), view+wantText(x.table))
			seen += strings.Count(view, "r-k")
		}
	}
	// Of the 256 pairs of labels, information flows by 81; 32 pairs are there twice, and of these by 6 and by 3.
	if seen < 81 || seen > 100 {
		t.Errorf("%d of 288 nodes are seen", seen)
	}
}

// TestP115Bytes has scripts of bytes and of words of all sorts.
func TestP115Bytes(t *testing.T) {
	words := []string{"page", "node", "run", "pipe", "gate", "give", "see", "read", "copy", "renew", " ", " ", " ", " ", "\n", "\n", "\n", "0/0", "1/0", "0", "1", "2", "1.0rw-", "-", "\t", "\r", "\x00", "\xff", "what", "4", "99", "100"}
	for seed := range 20000 {
		luck := chance(seed)
		var text strings.Builder
		for range luck.below(60) {
			switch luck.below(seed%3 + 1) {
			case 0:
				text.WriteString(words[luck.below(len(words))])
			case 1:
				text.WriteString(pick(&luck, "page 0/0\n", "run 1/0\n", "run 0/0\n", "node 0/0 ", "give 1 0 1.0rw-\n", "see 0/0\n", "copy 2 0 0 0\n", "see 3/0"))
			default:
				text.WriteByte(byte(luck.below(256)))
			}
		}
		checkLines(t, "bytes", text.String(), wantLines(text.String()))
	}
	for b := range 256 {
		one := string([]byte{byte(b)})
		for _, text := range []string{one, one + "\n", one + " 0/0\n", "page" + one + "0/0\n", "page 0/0" + one + "\n", "page 0" + one + "0\n", "page " + one + "/0\n", "see 0/0" + one + "\n", one + "see 0/0\n",
			"run 0/0\ngive 1 " + one + " 1.0rw-\n", "run 0/0\ngive 1 1" + one + " 1.0rw-\n", "run 0/0\ngive 1 0 1.0rw" + one + "\n", "run 0/0\ncopy 1 0 0 " + one + "\n", "run 0/0\ncopy 1 0 0 1" + one + "\n", "run 0/0\ncopy 1 0 0 " + one + "1\n", "run 0/0\ncopy " + one + " 0 0 0\n", "page 0/0\ngate 0/0 " + one + "\n"} {
			checkLines(t, "a byte", text, wantLines(text))
		}
	}
}

// TestP115NothingIsKept holds that a call knows nothing of those before it, of whichever sort they were.
func TestP115NothingIsKept(t *testing.T) {
	first := lines("page 0/0", "run 0/0", "give 2 0 1.0rw-", "write 2 0 0 9")
	for _, before := range []string{first, lines(town...), "what\n", strings.Repeat("x", 501), "page 0/0", "page 9/9\n", "read 2 0 0 0\n"} {
		for _, c := range [][2]string{
			{"read 2 0 0 0\n", "what\n"}, {"copy 1 0 0 0\n", "what\n"}, {"see 3/0\n", ""}, {"", ""}, {"page 1/1\n", "1 page 1/1 0 0\n"}, {"gate 0/0 1\n", "what\n"}, {"\n", "what\n"},
			{first, "0\n1 page 0/0 0 9\n2 run 0/0 0 0 1.0rw- - - -\n"}, {"run 0/0\ngive 1 0 2.0rw-\n", "what\n1 run 0/0 0 0 - - - -\n"},
		} {
			runLines(t, before)
			checkLines(t, "after "+before, c[0], c[1])
		}
	}
}

// TestP115TwiceTheSame holds that the same text prints the same, also after all others.
func TestP115TwiceTheSame(t *testing.T) {
	var first []string
	for _, script := range someScripts() {
		text := lines(script...)
		first = append(first, runLines(t, text))
		checkLines(t, "the second time", text, first[len(first)-1])
	}
	for i, script := range slices.Backward(someScripts()) {
		checkLines(t, "the third time", lines(script...), first[i])
	}
}

// TestP115AtTheSameTime has scripts that are executed at the same time.
func TestP115AtTheSameTime(t *testing.T) {
	var all sync.WaitGroup
	for i := range 16 {
		script := lines(someScript(4 * i)...)
		want := wantLines(script)
		all.Go(func() {
			for range 100 {
				if got := impl.LinesRun(script); got != want {
					t.Errorf("the script %q prints %q, want %q", script, got, want)
				}
				if got := impl.LinesRun("\nsee 4/0\n"); got != "what\nwhat\n" {
					t.Errorf("lines that are never possible print %q", got)
				}
			}
		})
	}
	all.Wait()
}

// TestP116Appended appends lines that print, and holds the final lines against those without them.
func TestP116Appended(t *testing.T) {
	fitting, tooLong := 0, 0
	for _, script := range someScripts() {
		text := lines(script...)
		x := wantTold(script)
		printed, final := strings.Join(x.printed, ""), wantText(x.table)
		if runLines(t, text) != printed+final {
			t.Errorf("the script %q prints %q, want %q", text, runLines(t, text), printed+final)
		}
		appended := map[string]string{"what": "what\n", "see": "what\n", "see ": "what\n", "see 4/0": "what\n"}
		for _, row := range labelTexts {
			appended["see "+row.text] = wantText(wantView(x.table, row.label))
		}
		for line, own := range appended {
			want := printed + own + final
			if len(text)+len(line)+1 > 500 {
				want = "too long\n"
				tooLong++
			} else {
				fitting++
			}
			checkLines(t, "with "+line, text+line+"\n", want)
		}
	}
	if tooLong < 500 || fitting < 10000 {
		t.Errorf("%d scripts become too long, and %d do not", tooLong, fitting)
	}
}

// TestP116UpToTheLimit appends lines to scripts that are almost too long.
func TestP116UpToTheLimit(t *testing.T) {
	start := lines("page 0/0", "run 1/0")
	end := "1 page 0/0 0 0\n2 run 1/0 0 0 - - - -\n"
	appended := map[string]string{"what\n": "what\n", "see\n": "what\n", "see 0/0\n": end, "see 1/0\n": end}
	for length := 480; length <= 500; length++ {
		text := start + strings.Repeat("x", length-len(start)-1) + "\n"
		for line, own := range appended {
			want := "what\n" + own + end
			if length+len(line) > 500 {
				want = "too long\n"
			}
			checkLines(t, fmt.Sprintf("%q behind %d bytes", line, length), text+line, want)
		}
		checkLines(t, "no line", text, "what\n"+end)
	}
}

// TestP116ManyTimes appends lines again and again.
func TestP116ManyTimes(t *testing.T) {
	for i := range 16 {
		script := someScript(4 * i)[:9]
		x := wantTold(script)
		printed, final := strings.Join(x.printed, ""), wantText(x.table)
		for count := 0; len(lines(script...)) <= 500; count++ {
			checkLines(t, fmt.Sprintf("%d lines more", count), lines(script...), printed+final)
			if count%3 == 0 {
				script, printed = append(script, "what"), printed+"what\n"
				continue
			}
			l := labelTexts[(i+count)%16]
			script, printed = append(script, "see "+l.text), printed+wantText(wantView(x.table, l.label))
		}
		checkLines(t, "too many lines", lines(script...), "too long\n")
	}
}

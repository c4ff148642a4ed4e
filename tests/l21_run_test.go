package tests

import (
	"fmt"
	"iter"
	"maps"
	"math"
	"reflect"
	"runtime"
	"slices"
	"sync"
	"testing"

	"loop.example/drawbar/impl"
)

// chance is a series of numbers that follow no simple rule, and are the same each time.
type chance uint64

func (c *chance) below(n int) int {
	*c = *c*6364136223846793005 + 1442695040888963407
	return int(*c>>33) % n
}

// hall has three processes with rights to objects of each other kind, not all of which serve; which labels and rights they have depends on the turn.
func hall(labels []impl.Label, turn int) []impl.Thing {
	luck := chance(turn)
	table := []impl.Thing{page(42, 2), page(7, 0), node(1, right(1, 2, "rw-"), right(4, 2, "r-k"), right(3, 1, "rw-")), pipe(2, 5), gate(97, 2), run(20), run(21), run(22)}
	for i := range table {
		table[i].Label = labels[luck.below(len(labels))]
	}
	for i := 5; i < 8; i++ {
		for slot := range table[i].Slots {
			to := (turn + 2*i + slot) % 5
			vers := table[to].Vers - luck.below(9)/8
			table[i].Slots[slot] = right(to+1, max(vers, 0), []string{"rw-", "rw-", "rw-", "rw-", "-w-", "r-k"}[luck.below(6)])
		}
	}
	return table
}

// court has objects with two labels; its processes, two with the first and one with the second, have rights to objects with their own label, and one to an object with the other.
func court(one, other impl.Label, turn int) []impl.Thing {
	table := []impl.Thing{
		page(42, 2), pipe(1, 5, 6), node(3, right(1, 2, "rw-"), right(4, 0, "rw-"), right(2, 1, "r-k")), pipe(0, 7), gate(98, 1),
		run(20, right(1, 2, "rw-"), right(2, 1, "rw-"), right(3, 3, "rw-"), right(4, 0, "-w-")),
		run(21, right(2, 1, "rw-"), right(1, 2-turn%2, "rw-"), right(3, 3, "r-k"), right(5, 0, "rw-")),
		run(22, right(4, 0, "rw-"), right(5, 0, "-w-"), right(3, 3, "rw-"), right(1+turn%2, 1, "rw-")),
	}
	for i := range table {
		table[i].Label = one
	}
	table[3].Label, table[4].Label, table[7].Label = other, other, other
	return table
}

// courtLabels has pairs of labels of which information flows from the first to the second, the other way round, or neither way.
var courtLabels = [][2]impl.Label{
	{label(0, 0), label(1, 0)}, {label(0, 3), label(3, 0)}, {label(1, 3), label(1, 2)}, {label(2, 0), label(0, 1)}, {label(3, 0), label(0, 3)}, {label(2, 1), label(1, 2)},
}

func courts() [][]impl.Thing {
	var out [][]impl.Thing
	for _, labels := range courtLabels {
		for turn := range 4 {
			out = append(out, court(labels[0], labels[1], turn))
		}
	}
	return out
}

// halls has courts, and halls with one label, with two, and with more.
func halls() [][]impl.Thing {
	out := courts()
	for i, labels := range append(palettes, []impl.Label{label(1, 1)}, allLabels()) {
		for turn := range 8 {
			out = append(out, hall(labels, 8*i+turn))
		}
	}
	return out
}

// runsOf is the numbers of the processes that are low for an observer, and of those that are high.
func runsOf(table []impl.Thing, observer impl.Label) (low, high []int) {
	for i, thing := range table {
		if thing.Kind != 3 {
			continue
		}
		if flows(thing.Label, observer) {
			low = append(low, i+1)
		} else {
			high = append(high, i+1)
		}
	}
	return low, high
}

// someKinds has the kinds of calls as often as they suit a long script: one that renews much has soon no right left that serves.
var someKinds = []int{1, 1, 2, 2, 3, 4, 4, 5, 5, 6, 6, 6, 7, 7, 8, 9, 9}

// scriptOf is calls of processes in turn, each of one of the next list; most of them pass the check if any do.
func scriptOf(table []impl.Thing, turns [][]int, length, seed int) []impl.Call {
	luck := chance(seed)
	now := table
	var out []impl.Call
	for len(out) < length {
		runs := turns[len(out)%len(turns)]
		if len(runs) == 0 {
			return out
		}
		c := impl.Call{Kind: someKinds[luck.below(len(someKinds))]}
		for range 8 {
			c.Run, c.A, c.B, c.N = runs[luck.below(len(runs))], luck.below(4), luck.below(4), luck.below(100)
			if wantCheck(now, c) == 0 {
				break
			}
		}
		now, _ = wantDo(now, c)
		out = append(out, c)
	}
	return out
}

// wantRun is what the document says of a script in a table.
func wantRun(table []impl.Thing, calls []impl.Call) ([]impl.Thing, []int) {
	after := copyTable(table)
	var answers []int
	for _, c := range calls {
		next, answer := wantDo(after, c)
		after, answers = next, append(answers, answer)
	}
	return after, answers
}

// course is a script in a table, and an observer.
type course struct {
	table    []impl.Thing
	calls    []impl.Call
	observer impl.Label
}

func (x course) String() string {
	return fmt.Sprintf("to %v, the script %v in\n%s", x.observer, x.calls, impl.TableText(x.table))
}

func (x course) low(c impl.Call) bool {
	return flows(x.table[c.Run-1].Label, x.observer)
}

func (x course) lowCalls() []impl.Call {
	var out []impl.Call
	for _, c := range x.calls {
		if x.low(c) {
			out = append(out, c)
		}
	}
	return out
}

// loud says whether a call is the kind that a quiet script has not.
func (x course) loud(c impl.Call) bool {
	return c.Kind == 9 && !x.low(c)
}

// run is the table afterwards and the results, by the program.
func (x course) run(t *testing.T) ([]impl.Thing, []int) {
	t.Helper()
	return runAll(t, x.table, x.calls)
}

// lowAnswers is those of the results that are of calls by low processes.
func (x course) lowAnswers(answers []int) []int {
	var out []int
	for i, c := range x.calls {
		if x.low(c) {
			out = append(out, answers[i])
		}
	}
	return out
}

// quietly is the course without what would make it loud.
func (x course) quietly() course {
	x.calls = slices.DeleteFunc(slices.Clone(x.calls), x.loud)
	return x
}

// runAll is RunAll of what is a script.
func runAll(t *testing.T, table []impl.Thing, calls []impl.Call) ([]impl.Thing, []int) {
	t.Helper()
	after, answers, ok := impl.RunAll(table, calls)
	if !ok || len(after) != len(table) || len(answers) != len(calls) {
		t.Fatalf("the script %v is %v with the results %v and the table %v", calls, ok, answers, after)
	}
	return after, answers
}

// someCourses is made once, as making it takes longer than most tests of it; nothing may be changed in it.
var someCourses = sync.OnceValue(func() []course {
	var out []course
	lengths := []int{40, 12, 40, 5, 39, 25}
	for i, table := range append(halls(), append(yards(), companies()...)...) {
		for j, observer := range allLabels() {
			low, high := runsOf(table, observer)
			for k, turns := range [][][]int{{append(slices.Clone(low), high...)}, {low}, {high}, {low, high}} {
				if calls := scriptOf(table, turns, lengths[(i+j+k)%len(lengths)], 64*i+4*j+k); len(calls) > 1 {
					out = append(out, course{table, calls, observer})
				}
			}
		}
	}
	return out
})

// quietCourses is made once, as someCourses.
var quietCourses = sync.OnceValue(func() []course {
	var out []course
	for _, x := range someCourses() {
		if quiet := x.quietly(); len(quiet.calls) > 0 {
			out = append(out, quiet)
		}
	}
	return out
})

// tally counts, by the kind of the call, what passes the check and what is refused.
type tally struct {
	passed, refused [10]int
}

// add counts those calls of a course for which this is asked.
func (y *tally) add(x course, counts func(c impl.Call) bool) {
	now := x.table
	for _, c := range x.calls {
		if counts(c) && wantCheck(now, c) == 0 {
			y.passed[c.Kind]++
		} else if counts(c) {
			y.refused[c.Kind]++
		}
		now, _ = wantDo(now, c)
	}
}

// check holds that calls of all kinds pass, and are refused where they can be.
func (y *tally) check(t *testing.T, what string, least int) {
	t.Helper()
	for _, d := range demands {
		if y.passed[d.kind] < least || y.refused[d.kind] < least && d.kind != impl.CallCopy {
			t.Errorf("%s: %s passes %d times and is refused %d times", what, d.name, y.passed[d.kind], y.refused[d.kind])
		}
	}
}

// TestP80Premises holds that the scripts of the other tests do something: calls of all kinds pass and are refused, by low processes and by high ones.
func TestP80Premises(t *testing.T) {
	var low, high tally
	only := map[string]int{}
	for _, x := range someCourses() {
		low.add(x, x.low)
		high.add(x, func(c impl.Call) bool { return !x.low(c) })
		switch count := len(x.lowCalls()); count {
		case 0:
			only["high"]++
		case len(x.calls):
			only["low"]++
		default:
			only["both"]++
		}
	}
	low.check(t, "by low processes", 300)
	high.check(t, "by high processes", 300)
	if only["high"] < 500 || only["low"] < 500 || only["both"] < 500 {
		t.Errorf("the scripts are by %v", only)
	}
	for _, observer := range allLabels() {
		if !slices.ContainsFunc(someCourses(), func(x course) bool { return x.observer == observer }) {
			t.Errorf("%v observes no script", observer)
		}
	}
}

// TestP80EachCall holds RunAll against CallDo of each call, and against the document.
func TestP80EachCall(t *testing.T) {
	for _, x := range someCourses() {
		after, answers, ok := impl.RunAll(x.table, x.calls)
		now := x.table
		var one []int
		for _, c := range x.calls {
			next, answer := impl.CallDo(now, c)
			now, one = next, append(one, answer)
		}
		if !ok || !slices.Equal(answers, one) || !sameTable(after, now) {
			t.Errorf("%vis %v, %v with\n%sbut its calls are %v with\n%s", x, ok, answers, impl.TableText(after), one, impl.TableText(now))
		}
		want, wantAnswers := wantRun(x.table, x.calls)
		if !slices.Equal(answers, wantAnswers) || !sameTable(after, want) {
			t.Errorf("%vis %v with\n%swant %v with\n%s", x, answers, impl.TableText(after), wantAnswers, impl.TableText(want))
		}
	}
}

// TestP80EachLength has scripts from the empty one to that with the most calls.
func TestP80EachLength(t *testing.T) {
	for i, table := range halls() {
		for length := range 41 {
			calls := scriptOf(table, [][]int{{6, 7, 8}}, length, i)
			want, wantAnswers := wantRun(table, calls)
			after, answers, ok := impl.RunAll(table, calls)
			if !ok || len(calls) != length || !slices.Equal(answers, wantAnswers) || !sameTable(after, want) {
				t.Errorf("%d calls %v are %v, %v, want %v, in\n%s", length, calls, ok, answers, wantAnswers, impl.TableText(table))
			}
		}
	}
}

// TestP80TwoParts has scripts that are executed in two parts, at each place.
func TestP80TwoParts(t *testing.T) {
	places := map[int]int{}
	for i, x := range someCourses() {
		if i%11 > 0 {
			continue
		}
		want, wantAnswers := x.run(t)
		for place := range len(x.calls) + 1 {
			places[place]++
			half, first := runAll(t, x.table, x.calls[:place])
			whole, second := runAll(t, half, x.calls[place:])
			if !sameTable(whole, want) || !slices.Equal(append(first, second...), wantAnswers) {
				t.Errorf("%vin two parts, of which the first has %d calls, is %v and %v with\n%s", x, place, first, second, impl.TableText(whole))
			}
		}
	}
	for place := range 41 {
		if places[place] < 20 {
			t.Errorf("only %d scripts are parted at %d", places[place], place)
		}
	}
}

// TestP80InPartsOfOne has a script of the most calls in parts of all sizes.
func TestP80InPartsOfOne(t *testing.T) {
	for i, table := range halls() {
		calls := scriptOf(table, [][]int{{6, 7, 8}}, 40, 1000+i)
		want, wantAnswers := runAll(t, table, calls)
		for size := 1; size <= 40; size++ {
			now, answers := table, []int{}
			for part := range slices.Chunk(calls, size) {
				next, more := runAll(t, now, part)
				now, answers = next, append(answers, more...)
			}
			if !sameTable(now, want) || !slices.Equal(answers, wantAnswers) {
				t.Errorf("%v in parts of %d is %v, want %v", calls, size, answers, wantAnswers)
			}
		}
	}
}

// store has a page, a node, a pipe and a gate without a secret, a process without one (5), and one with one (6) that has also a page (7) with its secret.
func store() []impl.Thing {
	table := []impl.Thing{
		page(30, 1),
		node(2, right(1, 1, "rw-"), right(2, 2, "rw-"), right(1, 0, "rw-")),
		pipe(0, 1, 2),
		gate(98, 1),
		run(50, right(1, 1, "rw-"), right(2, 2, "rw-"), right(3, 0, "rw-"), right(4, 0, "-w-")),
		run(60, right(7, 0, "rw-"), right(1, 1, "rw-"), right(8, 0, "-w-"), right(2, 2, "r-k")),
		page(70, 0),
		gate(0, 1),
	}
	for _, i := range []int{5, 6, 7} {
		table[i].Label = label(1, 0)
	}
	return table
}

func TestP80Examples(t *testing.T) {
	type calls = []impl.Call
	cases := []struct {
		what    string
		calls   calls
		answers []int
		change  func(table []impl.Thing)
	}{
		{"no call", nil, nil, func(table []impl.Thing) {}},
		{"a read", calls{{Kind: 1, Run: 5}}, []int{30}, func(table []impl.Thing) { table[4].Num = 30 }},
		{"a write that is read", calls{{Kind: 2, Run: 5, N: 3}, {Kind: 1, Run: 6, A: 1}}, []int{0, 3}, func(table []impl.Thing) { table[0].Num, table[4].Num, table[5].Num = 3, 0, 3 }},
		{"a read that is too early", calls{{Kind: 1, Run: 6, A: 1}, {Kind: 2, Run: 5, N: 3}}, []int{30, 0}, func(table []impl.Thing) { table[0].Num, table[4].Num, table[5].Num = 3, 0, 30 }},
		{"a secret that is not told", calls{{Kind: 1, Run: 6}, {Kind: 2, Run: 6, A: 1, N: 70}, {Kind: 1, Run: 5}}, []int{70, -2, 30}, func(table []impl.Thing) { table[4].Num, table[5].Num = 30, -2 }},
		{"a secret through a gate", calls{{Kind: 1, Run: 6}, {Kind: 9, Run: 6, A: 2, N: 71}, {Kind: 1, Run: 5}}, []int{70, 0, 1}, func(table []impl.Thing) { table[0].Num, table[4].Num, table[5].Num, table[7].Num = 1, 1, 0, 1 }},
		{"a gate whose count is at its end", calls{{Kind: 9, Run: 5, A: 3, N: 8}, {Kind: 9, Run: 5, A: 3, N: 5}, {Kind: 9, Run: 5, A: 3, N: 9}}, []int{0, 0, 0}, func(table []impl.Thing) { table[0].Num, table[3].Num, table[4].Num = 1, 99, 0 }},
		{"a pipe that is full", calls{{Kind: 6, Run: 5, A: 2, N: 3}, {Kind: 6, Run: 5, A: 2, N: 4}, {Kind: 7, Run: 5, A: 2}, {Kind: 6, Run: 5, A: 2, N: 5}}, []int{0, -4, 1, 0}, func(table []impl.Thing) { table[2].Queue, table[4].Num = []int{2, 3, 5}, 0 }},
		{"a pipe that is empty", calls{{Kind: 7, Run: 5, A: 2}, {Kind: 7, Run: 5, A: 2}, {Kind: 7, Run: 5, A: 2}}, []int{1, 2, -4}, func(table []impl.Thing) { table[2].Queue, table[4].Num = nil, -4 }},
		{"a page that is renewed", calls{{Kind: 8, Run: 5}, {Kind: 1, Run: 5}, {Kind: 1, Run: 6, A: 1}, {Kind: 8, Run: 5}}, []int{0, -3, -3, -3}, func(table []impl.Thing) {
			table[0].Num, table[0].Vers, table[4].Num, table[5].Num = 0, 2, -3, -3
		}},
		{"a right that is fetched", calls{{Kind: 4, Run: 5, A: 1, B: 3, N: 4}, {Kind: 1, Run: 5, A: 3}}, []int{0, 30}, func(table []impl.Thing) { table[4].Num, table[4].Slots[3] = 30, right(1, 1, "rw-") }},
		{"a right that is fetched and gone", calls{{Kind: 4, Run: 5, A: 1, B: 0, N: 2}, {Kind: 1, Run: 5}}, []int{0, -3}, func(table []impl.Thing) { table[4].Num, table[4].Slots[0] = -3, right(1, 0, "rw-") }},
		{"a weak right that is fetched", calls{{Kind: 4, Run: 6, A: 3, B: 1, N: 0}, {Kind: 1, Run: 6, A: 1}, {Kind: 4, Run: 6, A: 3, B: 3, N: 1}, {Kind: 4, Run: 6, A: 3, B: 0, N: 0}}, []int{0, 30, 0, 0}, func(table []impl.Thing) {
			table[5].Num = 0
			table[5].Slots = []impl.Right{right(1, 1, "r-k"), right(1, 1, "r-k"), right(8, 0, "-w-"), right(2, 2, "r-k")}
		}},
		{"a right that is copied and stored", calls{{Kind: 3, Run: 5, A: 2, B: 0, N: 6}, {Kind: 5, Run: 5, A: 1, B: 0, N: 7}, {Kind: 3, Run: 5, A: 3, B: 0, N: 0}}, []int{0, 0, 0}, func(table []impl.Thing) {
			table[4].Num, table[4].Slots[0], table[1].Slots[3] = 0, right(4, 0, "--k"), right(3, 0, "-w-")
		}},
		{"refusals", calls{{Kind: 7, Run: 6}, {Kind: 2, Run: 6, A: 1}, {Kind: 9, Run: 5}}, []int{-1, -2, -1}, func(table []impl.Thing) { table[4].Num, table[5].Num = -1, -2 }},
	}
	for _, c := range cases {
		want := store()
		c.change(want)
		got, answers, ok := impl.RunAll(store(), c.calls)
		if !ok || !slices.Equal(answers, c.answers) || !sameTable(got, want) {
			t.Errorf("%s: %v, %v with\n%swant %v with\n%s", c.what, ok, answers, impl.TableText(got), c.answers, impl.TableText(want))
		}
	}
}

// TestP80LongQueue has a pipe that is full, half full and empty again and again, in one script.
func TestP80LongQueue(t *testing.T) {
	for _, sends := range []int{1, 2, 3, 4, 5} {
		for _, takes := range []int{1, 2, 3, 4, 5} {
			table := []impl.Thing{pipe(0), run(0, right(1, 0, "rw-"))}
			var calls []impl.Call
			var queue, want []int
			for len(calls)+sends+takes <= 40 {
				for range sends {
					if len(queue) < 3 {
						queue, want = append(queue, len(calls)), append(want, 0)
					} else {
						want = append(want, -4)
					}
					calls = append(calls, impl.Call{Kind: impl.CallSend, Run: 2, N: len(calls)})
				}
				for range takes {
					calls = append(calls, impl.Call{Kind: impl.CallTake, Run: 2})
					if len(queue) == 0 {
						want = append(want, -4)
						continue
					}
					queue, want = queue[1:], append(want, queue[0])
				}
			}
			after, answers := runAll(t, table, calls)
			if !slices.Equal(answers, want) || !slices.Equal(after[0].Queue, queue) {
				t.Errorf("%d sends and %d takes in turn are %v, want %v, with %v", sends, takes, answers, want, after)
			}
		}
	}
}

// sorted goes through a map in the order of its keys, so that a test that takes some of many takes the same ones each time.
func sorted[T any](m map[string]T) iter.Seq2[string, T] {
	return func(yield func(string, T) bool) {
		for _, key := range slices.Sorted(maps.Keys(m)) {
			if !yield(key, m[key]) {
				return
			}
		}
	}
}

// noScripts goes through tables and calls of which one or the other is not what it should be, and is so only in one respect.
func noScripts(check func(what string, table []impl.Thing, calls []impl.Call)) {
	for what, table := range sorted(badTables()) {
		for _, calls := range [][]impl.Call{nil, {}, {{Kind: 3, Run: 3}}, {{Kind: 3, Run: 7}, {Kind: 1, Run: 3}}, {{Kind: 3, Run: 1}}} {
			check(what, table, calls)
		}
	}
	for what, table := range sorted(spoiled(scene{impl.KindPage, seesBoth[0], seesBoth[1], "rw-", false}.table())) {
		for _, calls := range [][]impl.Call{nil, {}, {sceneCall(impl.CallRead)}, slices.Repeat([]impl.Call{sceneCall(impl.CallWrite)}, 40)} {
			check(what, table, calls)
		}
	}
	for i, table := range append(halls()[:3], store(), wide()) {
		runs, _ := runsOf(table, highest)
		for _, length := range []int{1, 2, 3, 39, 40} {
			calls := scriptOf(table, [][]int{runs}, length, i)
			for j, place := range []int{0, length / 2, length - 1} {
				if j > 0 && place == 0 {
					continue
				}
				for what, bad := range sorted(noCalls(table, calls[place])) {
					other := slices.Clone(calls)
					other[place] = bad
					check(fmt.Sprintf("call %d of %d: %s", place, length, what), table, other)
				}
			}
		}
		for _, length := range []int{41, 42, 64, 80, 255, 256, 257, 296} {
			calls := slices.Repeat(scriptOf(table, [][]int{runs}, 37, i), 8)[:length]
			check(fmt.Sprint(length, " calls"), table, calls)
			check(fmt.Sprint(length, " copies"), table, slices.Repeat([]impl.Call{{Kind: impl.CallCopy, Run: runs[0]}}, length))
		}
	}
}

// noCalls has calls that are invalid in one field, or valid but by what is no process of the table.
func noCalls(table []impl.Thing, valid impl.Call) map[string]impl.Call {
	out := map[string]impl.Call{}
	// A few of the many numbers are enough here, as the tests of chapter 11 have them all.
	few := []int{-1, 0, 4, 9, 10, 100, 257, math.MinInt, math.MaxInt}
	for what, c := range invalidCalls(valid) {
		was, is := []int{valid.Kind, valid.Run, valid.A, valid.B, valid.N}, []int{c.Kind, c.Run, c.A, c.B, c.N}
		for i := range is {
			if is[i] != was[i] && slices.Contains(few, is[i]) {
				out[what] = c
			}
		}
	}
	for number := 1; number <= 8; number++ {
		if !isProcess(table, number) {
			c := valid
			c.Run = number
			out[fmt.Sprint("by object ", number, " of ", len(table))] = c
			c.Kind = impl.CallCopy
			out[fmt.Sprint("a copy by object ", number, " of ", len(table))] = c
		}
	}
	return out
}

func TestP80NoScript(t *testing.T) {
	cases := 0
	noScripts(func(what string, table []impl.Thing, calls []impl.Call) {
		cases++
		if after, answers, ok := impl.RunAll(table, calls); ok || len(after) != 0 || len(answers) != 0 {
			t.Errorf("%s: RunAll is %v, %v with %v", what, ok, answers, after)
		}
	})
	if cases < 2000 {
		t.Errorf("only %d cases", cases)
	}
}

// TestP80NoObject holds that a script is refused as a whole if a process is not there, in tables of all sizes.
func TestP80NoObject(t *testing.T) {
	for size := 1; size <= 8; size++ {
		table := slices.Repeat([]impl.Thing{run(5)}, size)
		for number := range 10 {
			calls := []impl.Call{{Kind: impl.CallCopy, Run: 1}, {Kind: impl.CallCopy, Run: number}}
			want := number >= 1 && number <= size
			after, answers, ok := impl.RunAll(table, calls)
			if ok != want || want && (len(answers) != 2 || after[number-1].Num != 0) || !want && len(after)+len(answers) > 0 {
				t.Errorf("a call by object %d of %d is %v, %v with %v", number, size, ok, answers, after)
			}
			if low := impl.RunLow(table, calls, highest); (len(low) == 2) != want || !want && len(low) > 0 {
				t.Errorf("with a call by object %d of %d, the low calls are %v", number, size, low)
			}
			if impl.RunQuiet(table, calls, highest) != want {
				t.Errorf("with a call by object %d of %d, the script is quiet: %v", number, size, !want)
			}
		}
	}
}

func TestP80MostCalls(t *testing.T) {
	if impl.RunMax != 40 {
		t.Errorf("RunMax is %d", impl.RunMax)
	}
	for length := range 100 {
		calls := slices.Repeat([]impl.Call{{Kind: impl.CallRead, Run: 5}}, length)
		want := length <= 40
		_, answers, ok := impl.RunAll(store(), calls)
		if ok != want || want && !slices.Equal(answers, slices.Repeat([]int{30}, length)) || !want && len(answers) > 0 {
			t.Errorf("%d calls are %v with %v", length, ok, answers)
		}
		if low := impl.RunLow(store(), calls, lowest); len(low) != 0 {
			t.Errorf("%d calls of a high process are low: %v", length, low)
		}
		if low := impl.RunLow(store(), calls, label(0, 0)); want && !slices.Equal(low, calls) || !want && len(low) > 0 {
			t.Errorf("%d calls of a low process are %v", length, low)
		}
		if impl.RunQuiet(store(), calls, label(0, 0)) != want || impl.RunQuiet(store(), calls, lowest) != want {
			t.Errorf("%d calls are quiet: %v", length, !want)
		}
	}
}

func TestP81LowCalls(t *testing.T) {
	counts := map[bool]int{}
	for _, x := range someCourses() {
		want := x.lowCalls()
		got := impl.RunLow(x.table, x.calls, x.observer)
		if !slices.Equal(got, want) {
			t.Errorf("%vhas the low calls %v, want %v", x, got, want)
		}
		counts[len(want) > 0 && len(want) < len(x.calls)]++
		if all := impl.RunLow(x.table, x.calls, highest); !slices.Equal(all, x.calls) {
			t.Errorf("of %v, the highest label sees the calls %v", x, all)
		}
	}
	if counts[true] < 500 {
		t.Errorf("only %d scripts have low and high calls", counts[true])
	}
}

// TestP81EachPairOfLabels has processes with two labels, whose calls alternate, for each observer.
func TestP81EachPairOfLabels(t *testing.T) {
	eachTriple(func(one, other, observer impl.Label) {
		table := []impl.Thing{run(1, right(3, 0, "rw-")), run(2, right(3, 0, "rw-")), page(3, 0)}
		table[0].Label, table[1].Label = one, other
		var calls, want []impl.Call
		for i := range 8 {
			// What is called does not matter, nor whether it passes.
			c := impl.Call{Kind: i + 1, Run: 1 + i/2%2, N: i}
			calls = append(calls, c)
			if flows([]impl.Label{one, other}[i/2%2], observer) {
				want = append(want, c)
			}
		}
		if got := impl.RunLow(table, calls, observer); !slices.Equal(got, want) {
			t.Errorf("to %v, the low calls by %v and %v are %v, want %v", observer, one, other, got, want)
		}
	})
}

func TestP81Examples(t *testing.T) {
	// Process 5 has no secret, process 6 has one.
	calls := []impl.Call{{Kind: 1, Run: 6, A: 1}, {Kind: 2, Run: 5, N: 3}, {Kind: 9, Run: 6, A: 2}, {Kind: 9, Run: 5, A: 3}, {Kind: 9, Run: 5, A: 3}, {Kind: 1, Run: 6}}
	without := []impl.Call{calls[1], calls[3], calls[4]}
	cases := []struct {
		observer impl.Label
		want     []impl.Call
	}{
		{label(0, 0), without}, {label(1, 0), calls}, {label(2, 0), without}, {label(3, 0), calls},
		{label(0, 1), nil}, {label(0, 3), nil}, {label(1, 1), nil}, {label(3, 3), nil}, {label(3, 2), nil},
	}
	for _, c := range cases {
		if got := impl.RunLow(store(), calls, c.observer); !slices.Equal(got, c.want) {
			t.Errorf("to %v, the low calls are %v, want %v", c.observer, got, c.want)
		}
	}
}

func TestP81NoScript(t *testing.T) {
	noScripts(func(what string, table []impl.Thing, calls []impl.Call) {
		for _, observer := range []impl.Label{lowest, highest, label(0, 0), label(3, 1)} {
			if low := impl.RunLow(table, calls, observer); len(low) != 0 {
				t.Errorf("%s: to %v, the low calls are %v", what, observer, low)
			}
		}
	})
}

// labelScripts has scripts that are quiet to whom it may concern, and others.
func labelScripts() []course {
	out := []course{{table: store()}, {table: store(), calls: []impl.Call{{Kind: 1, Run: 5}}}, {table: store(), calls: []impl.Call{{Kind: 9, Run: 5, A: 3}}}}
	open := []impl.Thing{run(1), page(2, 0)}
	open[0].Label = lowest
	return append(out, course{table: open}, course{table: open, calls: []impl.Call{{Kind: 3, Run: 1}}}, course{table: halls()[0], calls: scriptOf(halls()[0], [][]int{{6, 7, 8}}, 40, 3)})
}

func TestP81InvalidLabel(t *testing.T) {
	for _, observer := range invalidLabels() {
		for _, x := range labelScripts() {
			if low := impl.RunLow(x.table, x.calls, observer); len(low) != 0 {
				t.Errorf("to %v, the low calls of %v are %v", observer, x, low)
			}
		}
		if low := impl.RunLow(nil, []impl.Call{{}}, observer); len(low) != 0 {
			t.Errorf("to %v, the low calls of nothing are %v", observer, low)
		}
	}
}

func TestP82QuietScripts(t *testing.T) {
	counts := map[bool]int{}
	for _, x := range someCourses() {
		want := !slices.ContainsFunc(x.calls, x.loud)
		counts[want]++
		if impl.RunQuiet(x.table, x.calls, x.observer) != want {
			t.Errorf("%vis quiet: %v", x, !want)
		}
		if low := impl.RunLow(x.table, x.calls, x.observer); !impl.RunQuiet(x.table, low, x.observer) {
			t.Errorf("the low calls of %vare not quiet", x)
		}
		if quiet := x.quietly(); !impl.RunQuiet(quiet.table, quiet.calls, quiet.observer) {
			t.Errorf("%vis not quiet", quiet)
		}
		if !impl.RunQuiet(x.table, x.calls, highest) {
			t.Errorf("to the highest label, %vis not quiet", x)
		}
	}
	if counts[true] < 1000 || counts[false] < 1000 {
		t.Errorf("of the scripts, quiet are %v", counts)
	}
}

// TestP82EachPairOfLabels has one call of each kind, through a right that serves, one that does not, and none, by one process for each observer, whose own label it has as well.
func TestP82EachPairOfLabels(t *testing.T) {
	eachPair(func(process, observer impl.Label) {
		for _, object := range []impl.Label{process, lowest, highest, observer} {
			table := gateTable([2]impl.Label{process, object}, object, 98, 3)
			for _, d := range demands {
				for a := range 4 {
					want := d.kind != 9 || flows(process, observer)
					calls := []impl.Call{{Kind: d.kind, Run: 3, A: a}}
					if impl.RunQuiet(table, calls, observer) != want {
						t.Errorf("to %v, %s by a process with %v is quiet: %v", observer, d.name, process, !want)
					}
				}
			}
		}
	})
}

// TestP82EachPlace has one CallGate among others, at each place of scripts of several lengths, by a low process or by a high one.
func TestP82EachPlace(t *testing.T) {
	for _, length := range []int{1, 2, 3, 39, 40} {
		for place := range length {
			for _, number := range []int{5, 6} {
				calls := slices.Repeat([]impl.Call{{Kind: 1, Run: 5}, {Kind: 3, Run: 6}, {Kind: 8, Run: 6}, {Kind: 9, Run: 5, A: 3}}, 10)[:length]
				calls[place] = impl.Call{Kind: impl.CallGate, Run: number, A: 7 - number, N: place}
				for observer, low := range map[impl.Label]bool{label(0, 0): true, label(2, 0): true, label(1, 0): false, highest: false} {
					want := number == 5 || !low
					if impl.RunQuiet(store(), calls, observer) != want {
						t.Errorf("to %v, %v is quiet: %v", observer, calls, !want)
					}
				}
				// The labels of both processes may not flow to the lowest one.
				if impl.RunQuiet(store(), calls, lowest) {
					t.Errorf("to the lowest label, %v is quiet", calls)
				}
			}
		}
	}
}

func TestP82NoScript(t *testing.T) {
	noScripts(func(what string, table []impl.Thing, calls []impl.Call) {
		for _, observer := range []impl.Label{lowest, highest, label(0, 0), label(3, 1)} {
			if impl.RunQuiet(table, calls, observer) {
				t.Errorf("%s: it is quiet to %v", what, observer)
			}
		}
	})
}

func TestP82InvalidLabel(t *testing.T) {
	for _, observer := range invalidLabels() {
		for _, x := range labelScripts() {
			if impl.RunQuiet(x.table, x.calls, observer) {
				t.Errorf("to %v, %vis quiet", observer, x)
			}
		}
		if impl.RunQuiet(nil, nil, observer) {
			t.Errorf("to %v, nothing is quiet", observer)
		}
	}
}

func TestP83QuietRuns(t *testing.T) {
	changed := 0
	for _, x := range quietCourses() {
		after, _ := x.run(t)
		low, _ := runAll(t, x.table, impl.RunLow(x.table, x.calls, x.observer))
		if !looksSame(after, low, x.observer) {
			t.Errorf("%vlooks like\n%sbut without its high calls like\n%s", x, impl.TableText(after), impl.TableText(low))
		}
		if !sameTable(after, low) && !sameTable(low, x.table) {
			changed++
		}
	}
	if changed < 300 {
		t.Errorf("in only %d scripts, low calls change something, and high ones too", changed)
	}
}

// meeting is a scene with another process (4), which has rights to the same objects and the label of an observer.
func (s scene) meeting(observer impl.Label) []impl.Thing {
	table := append(s.table(), run(9))
	vers := table[sceneObject-1].Vers
	table[3].Label = observer
	table[3].Slots = []impl.Right{right(sceneObject, vers, "rw-"), right(1, 4, "rw-"), right(sceneObject, vers, "r-k"), right(sceneObject, max(vers-1, 0), "rw-")}
	switch s.kind {
	case impl.KindPage:
		table[sceneObject-1].Num = 66
	case impl.KindNode:
		table[sceneObject-1].Slots = []impl.Right{right(1, 4, "rw-"), right(2, 3, "rw-"), noRight, right(1, 3, "r-k")}
	case impl.KindPipe:
		table[sceneObject-1].Queue = []int{8, 9}
	}
	return table
}

// roundOf is a call of each kind by the second process of a meeting.
func roundOf(a, n int) []impl.Call {
	var out []impl.Call
	for _, d := range demands {
		out = append(out, impl.Call{Kind: d.kind, Run: 4, A: a, B: 3, N: n})
	}
	return out
}

// eachMeeting goes through calls of one kind by a high process, most of which pass or are refused by the right or the labels, between those of a low one.
func eachMeeting(check func(x course, kind, answer int)) {
	eachPair(func(process, object impl.Label) {
		for _, d := range demands {
			for i, kind := range append(d.objects, impl.KindNode) {
				for j, s := range []scene{{kind, process, object, "rw-", false}, {kind, process, object, "--k", false}, {kind, process, object, "rw-", shapes[kind-1].vers[1] > 0}} {
					for k, observer := range allLabels() {
						if flows(process, observer) || (process.Secret+object.Vouch+i+j+k+d.kind)%5 > 0 && observer != object && process != object {
							continue
						}
						table := s.meeting(observer)
						high := sceneCall(d.kind)
						high.B, high.N = k%4, 5*k+j
						calls := append(roundOf(0, 1)[:k%10], high, high)
						x := course{table, append(calls, roundOf(k%3, 6)...), observer}
						_, answers := wantRun(table, calls)
						check(x, d.kind, answers[len(calls)-2])
					}
				}
			}
		}
	})
}

// TestP83EachKindOfHighCall has each kind of call but CallGate by a high process, that passes or is refused.
func TestP83EachKindOfHighCall(t *testing.T) {
	type outcome struct{ kind, answer int }
	outcomes := map[outcome]int{}
	eachMeeting(func(x course, kind, answer int) {
		if kind == impl.CallGate {
			return
		}
		outcomes[outcome{kind, min(answer, 0)}]++
		after, _ := x.run(t)
		low, _ := runAll(t, x.table, x.lowCalls())
		if !impl.ViewSame(after, low, x.observer) {
			t.Errorf("%vlooks like\n%sbut without its high calls like\n%s", x, impl.TableText(after), impl.TableText(low))
		}
	})
	for kind := impl.CallRead; kind < impl.CallGate; kind++ {
		if outcomes[outcome{kind, 0}] < 50 || kind != impl.CallCopy && (outcomes[outcome{kind, -1}] < 50 || outcomes[outcome{kind, -2}] < 50 || outcomes[outcome{kind, -3}] < 20) {
			t.Errorf("the outcomes of %s are too few: %v", demands[kind-1].name, outcomes)
		}
	}
}

// TestP83OnlyGatesShow holds that a script that is not quiet does pass a bit down, so that the other scripts are not alike for want of anything to tell.
func TestP83OnlyGatesShow(t *testing.T) {
	for n := range 4 {
		calls := []impl.Call{{Kind: 2, Run: 5, N: 50}, {Kind: impl.CallGate, Run: 6, A: 2, N: n}, {Kind: 1, Run: 5}}
		after, answers := runAll(t, store(), calls)
		low, lowAnswers := runAll(t, store(), impl.RunLow(store(), calls, label(0, 0)))
		if impl.ViewSame(after, low, label(0, 0)) || after[0].Num != n%2 || low[0].Num != 50 || answers[2] != n%2 || lowAnswers[1] != 50 {
			t.Errorf("with %d through a gate, the script is %v with %v, and %v with %v without", n, answers, after, lowAnswers, low)
		}
		if !impl.ViewSame(after, low, lowest) || impl.RunQuiet(store(), calls, label(0, 0)) || !impl.RunQuiet(store(), calls, label(1, 0)) {
			t.Errorf("the script %v is seen by the lowest label, or is quiet to whom it should not", calls)
		}
	}
}

// TestP83LowGates holds that a low process may pass a number through a gate in a quiet script, also if the gate or the page is hidden.
func TestP83LowGates(t *testing.T) {
	eachTriple(func(process, object, observer impl.Label) {
		if !flows(process, observer) {
			return
		}
		for _, target := range []impl.Label{lowest, label(1, 2), observer, highest} {
			table := append(gateTable([2]impl.Label{process, object}, target, 98, 50), run(3, right(4, 3, "rw-"), right(2, 0, "-w-"), right(1, 0, "rw-")))
			table[5].Label = label(2, 1)
			calls := []impl.Call{{Kind: 9, Run: 3, A: 3, N: 3}, {Kind: 2, Run: 6, N: 9}, {Kind: 1, Run: 6}, {Kind: 9, Run: 3, A: 3, N: 7}}
			after, answers := runAll(t, table, calls)
			kept := impl.RunLow(table, calls, observer)
			low, lowAnswers := runAll(t, table, kept)
			x := course{table, calls, observer}
			if !impl.RunQuiet(table, calls, observer) || !looksSame(after, low, observer) || !slices.Equal(x.lowAnswers(answers), lowAnswers) {
				t.Errorf("%vis %v with\n%sand %v without high calls, with\n%s", x, answers, impl.TableText(after), lowAnswers, impl.TableText(low))
			}
		}
	})
}

func TestP84LowResults(t *testing.T) {
	counts := map[int]int{}
	for _, x := range quietCourses() {
		_, answers := x.run(t)
		_, want := runAll(t, x.table, impl.RunLow(x.table, x.calls, x.observer))
		if got := x.lowAnswers(answers); !slices.Equal(got, want) {
			t.Errorf("%vhas the low results %v, but without its high calls %v", x, got, want)
		}
		if len(want) < len(x.calls) {
			for _, answer := range want {
				counts[min(answer, 1)]++
			}
		}
	}
	for answer := -4; answer <= 1; answer++ {
		if counts[answer] < 100 {
			t.Errorf("of the low results, only %d are %d", counts[answer], answer)
		}
	}
}

// TestP84EachKindOfHighCall has each kind of call but CallGate by a high process, that passes or is refused.
func TestP84EachKindOfHighCall(t *testing.T) {
	counts := map[int]int{}
	eachMeeting(func(x course, kind, answer int) {
		if kind == impl.CallGate {
			return
		}
		_, answers := x.run(t)
		_, want := runAll(t, x.table, x.lowCalls())
		if got := x.lowAnswers(answers); !slices.Equal(got, want) {
			t.Errorf("%vhas the low results %v, but without its high calls %v", x, got, want)
		}
		for _, answer := range want {
			counts[min(answer, 1)]++
		}
	})
	for answer := -3; answer <= 1; answer++ {
		if counts[answer] < 1000 {
			t.Errorf("of the low results, only %d are %d", counts[answer], answer)
		}
	}
}

// TestP84WhatIsNotTold has pairs of a high call and a low one whose result would tell of it.
func TestP84WhatIsNotTold(t *testing.T) {
	cases := []struct {
		what      string
		object    impl.Thing
		high, low []int
		answers   []int
	}{
		{"a page that is written", page(5, 0), []int{2}, []int{1, 2, 1}, []int{-2, 0, -2}},
		{"a page that is renewed", page(5, 0), []int{8}, []int{1, 2, 8}, []int{-2, 0, 0}},
		{"a page of the last version", page(5, 5), []int{8, 8}, []int{8, 2}, []int{0, 0}},
		{"a page of the last version but one", page(5, 4), []int{8}, []int{8, 8}, []int{0, 0}},
		{"a pipe that is filled", pipe(0), []int{6, 6, 6, 6}, []int{6, 7}, []int{0, -2}},
		{"a pipe that is emptied", pipe(0, 1, 2, 3), []int{7, 7}, []int{6, 7}, []int{0, -2}},
		{"a pipe that is renewed", pipe(0, 1, 2, 3), []int{8}, []int{6, 6, 7, 8}, []int{0, 0, -2, 0}},
		{"a node that is stored to", node(0), []int{5}, []int{4, 5}, []int{-2, 0}},
		{"a node that is renewed", node(0), []int{8}, []int{4, 5, 8}, []int{-2, 0, 0}},
	}
	for _, c := range cases {
		c.object.Label = label(1, 0)
		table := []impl.Thing{c.object, run(0, right(1, c.object.Vers, "rw-")), run(0, right(1, c.object.Vers, "rw-"))}
		table[1].Label = label(1, 0)
		calls := func(high int) []impl.Call {
			var out []impl.Call
			for _, kind := range c.high {
				out = append(out, impl.Call{Kind: kind, Run: 2, N: 77})
			}
			out = slices.Repeat(out, high)
			for _, kind := range c.low {
				out = append(out, impl.Call{Kind: kind, Run: 3, B: 1, N: 66})
			}
			return out
		}
		for high := range 3 {
			after, answers := runAll(t, table, calls(high))
			if got := answers[high*len(c.high):]; !slices.Equal(got, c.answers) || !looksSame(after, table, lowest) || after[2].Num != c.answers[len(c.answers)-1] {
				t.Errorf("%s %d times: the low results are %v, want %v", c.what, high, got, c.answers)
			}
		}
	}
}

// eachHallDisguise goes through pairs of halls that look the same to an observer.
func eachHallDisguise(check func(a, b []impl.Thing, observer impl.Label)) {
	for i, table := range halls() {
		for j, observer := range allLabels() {
			others := disguises(table, observer)
			for k, other := range others {
				if (i+j+k)%11 == 0 || k == len(others)-1 {
					check(table, other, observer)
				}
			}
		}
	}
}

func TestP85SameToBegin(t *testing.T) {
	var low, high tally
	pairs := 0
	check := func(a, b []impl.Thing, observer impl.Label) {
		pairs++
		lowRuns, highRuns := runsOf(a, observer)
		x := course{a, scriptOf(a, [][]int{append(lowRuns, highRuns...)}, 12+pairs%29, pairs), observer}.quietly()
		one, answers := x.run(t)
		other, otherAnswers := runAll(t, b, x.calls)
		if !looksSame(a, b, observer) || !impl.RunQuiet(a, x.calls, observer) || !impl.RunQuiet(b, x.calls, observer) {
			t.Errorf("%vis not quiet, or looks different from\n%s", x, impl.TableText(b))
		}
		if !looksSame(one, other, observer) || !slices.Equal(x.lowAnswers(answers), x.lowAnswers(otherAnswers)) {
			t.Errorf("%vlooks like\n%sbut like\n%sbeginning with\n%s", x, impl.TableText(one), impl.TableText(other), impl.TableText(b))
		}
		if pairs%7 == 0 {
			low.add(x, x.low)
			high.add(x, func(c impl.Call) bool { return !x.low(c) })
		}
	}
	eachHallDisguise(check)
	eachDisguise(check)
	if pairs < 5000 {
		t.Errorf("only %d pairs of tables", pairs)
	}
	low.check(t, "by low processes", 20)
	high.passed[9], high.refused[9] = 20, 20
	high.check(t, "by high processes", 20)
}

// TestP85SameAfterRuns has tables that look the same because of calls by high processes.
func TestP85SameAfterRuns(t *testing.T) {
	pairs := 0
	for i, x := range quietCourses() {
		_, high := runsOf(x.table, x.observer)
		before := course{x.table, scriptOf(x.table, [][]int{high}, 20, i), x.observer}.quietly()
		if i%3 > 0 || len(before.calls) == 0 {
			continue
		}
		other, _ := before.run(t)
		if !sameTable(other, x.table) {
			pairs++
		}
		one, answers := x.run(t)
		two, otherAnswers := runAll(t, other, x.calls)
		if !looksSame(x.table, other, x.observer) || !looksSame(one, two, x.observer) || !slices.Equal(x.lowAnswers(answers), x.lowAnswers(otherAnswers)) {
			t.Errorf("%vlooks like\n%sbut like\n%sbeginning with\n%s", x, impl.TableText(one), impl.TableText(two), impl.TableText(other))
		}
	}
	if pairs < 500 {
		t.Errorf("only %d pairs of tables differ", pairs)
	}
}

// designated is the versions of objects to which there are rights in a table.
func designated(table []impl.Thing) map[[2]int]bool {
	out := map[[2]int]bool{{0, 0}: true}
	for _, thing := range table {
		for _, r := range thing.Slots {
			out[[2]int{r.Thing, r.Vers}] = true
		}
	}
	return out
}

func TestP86NoNewObjects(t *testing.T) {
	moved, renewed := 0, 0
	for _, x := range someCourses() {
		after, _ := x.run(t)
		before := designated(x.table)
		for i, thing := range after {
			own := designated(x.table[i : i+1])
			for _, r := range thing.Slots {
				if !before[[2]int{r.Thing, r.Vers}] {
					t.Errorf("%vmakes the right %v of object %d, in\n%s", x, r, i+1, impl.TableText(after))
				}
				if !own[[2]int{r.Thing, r.Vers}] {
					moved++
				}
				if r != noRight && r.Vers < after[r.Thing-1].Vers && r.Vers == x.table[r.Thing-1].Vers {
					renewed++
				}
			}
		}
	}
	if moved < 1000 || renewed < 1000 {
		t.Errorf("only %d rights move to other objects, and only %d go out of date", moved, renewed)
	}
}

// TestP86OldRights renews an object and goes on using the old rights: they are copied, stored and fetched as what they are.
func TestP86OldRights(t *testing.T) {
	for _, renewable := range []impl.Thing{page(9, 1), node(1, right(1, 1, "rw-")), pipe(1, 4)} {
		old := right(1, 1, "rw-")
		table := []impl.Thing{renewable, node(0, old), run(0, old, right(2, 0, "rw-")), run(0, right(2, 0, "rw-"))}
		calls := []impl.Call{
			{Kind: 8, Run: 3}, {Kind: 8, Run: 3}, {Kind: 3, Run: 3, A: 0, B: 2, N: 7}, {Kind: 5, Run: 3, A: 1, B: 2, N: 3},
			{Kind: 4, Run: 4, A: 0, B: 1, N: 3}, {Kind: 4, Run: 4, A: 0, B: 2, N: 0}, {Kind: 8, Run: 4, A: 1}, {Kind: 3, Run: 4, A: 2, B: 3, N: 1},
		}
		after, answers := runAll(t, table, calls)
		want := []impl.Thing{shapes[renewable.Kind-1].plain(), node(0, old, noRight, noRight, old), run(0, old, right(2, 0, "rw-"), old), run(0, right(2, 0, "rw-"), old, old, right(1, 1, "r-k"))}
		want[0].Vers = 2
		if !slices.Equal(answers, []int{0, -3, 0, 0, 0, 0, -3, 0}) || !sameTable(after, want) {
			t.Errorf("%v is %v with\n%swant\n%s", calls, answers, impl.TableText(after), impl.TableText(want))
		}
	}
}

// TestP86OldRightsUnseen renews an object that the process does not observe, which is not told that its right is gone.
func TestP86OldRightsUnseen(t *testing.T) {
	for vers := range 6 {
		for times := range 9 {
			hidden := page(9, vers)
			hidden.Label = label(1, 0)
			table := []impl.Thing{hidden, run(0, right(1, vers, "rw-"))}
			calls := append(slices.Repeat([]impl.Call{{Kind: 8, Run: 2}}, times), impl.Call{Kind: 2, Run: 2, N: 8}, impl.Call{Kind: 3, Run: 2, B: 3, N: 7})
			after, answers := runAll(t, table, calls)
			want, num := vers, 8
			if times > 0 && vers < 5 {
				want, num = vers+1, 0
			}
			if !slices.Equal(answers, make([]int, times+2)) || after[0].Vers != want || after[0].Num != num || after[1].Slots[3] != right(1, vers, "rw-") {
				t.Errorf("version %d, renewed %d times, is %v with %v", vers, times, answers, after)
			}
		}
	}
}

func TestP87TableStays(t *testing.T) {
	renewed, full, empty := 0, 0, 0
	for _, x := range someCourses() {
		after, answers := x.run(t)
		if !impl.TableOk(after) {
			t.Errorf("%vmakes no table: %v", x, after)
			continue
		}
		for i, was := range x.table {
			is := after[i]
			if is.Kind != was.Kind || is.Label != was.Label || is.To != was.To || is.Vers < was.Vers {
				t.Errorf("%vmakes %v of %v", x, is, was)
			}
			if len(is.Queue) > 3 || len(is.Queue) > 0 && is.Kind != 4 || slices.ContainsFunc(is.Queue, func(n int) bool { return !inside(n, [2]int{0, 99}) }) {
				t.Errorf("%vmakes the queue %v", x, is.Queue)
			}
			if is.Vers > was.Vers {
				renewed++
			}
		}
		for i, c := range x.calls {
			if answers[i] == -4 && c.Kind == 6 {
				full++
			}
			if answers[i] == -4 && c.Kind == 7 {
				empty++
			}
		}
	}
	if renewed < 500 || full < 100 || empty < 100 {
		t.Errorf("%d objects are renewed, %d pipes are full, and %d empty", renewed, full, empty)
	}
}

// TestP87ManyTimes has one call over and over, up to the end of what its object holds.
func TestP87ManyTimes(t *testing.T) {
	for _, labels := range [][2]impl.Label{seesBoth, touchesOnly} {
		for vers := range 6 {
			table := []impl.Thing{pipe(vers), run(0, right(1, vers, "rw-")), gate(80, 4), page(50, 0), run(0, right(3, 0, "-w-"))}
			table[0].Label, table[1].Label, table[2].Label, table[4].Label = labels[1], labels[0], labels[1], labels[0]
			for times := range 41 {
				sent, _ := runAll(t, table, slices.Repeat([]impl.Call{{Kind: 6, Run: 2, N: 7}}, times))
				if want := slices.Repeat([]int{7}, min(times, 3)); !slices.Equal(sent[0].Queue, want) || sent[0].Vers != vers {
					t.Errorf("%d sends make %v", times, sent[0])
				}
				passed, _ := runAll(t, table, slices.Repeat([]impl.Call{{Kind: 9, Run: 5, N: 7}}, times))
				if passed[2].Num != min(80+times, 99) || times > 0 && passed[3].Num != 1 || passed[3].Vers != 0 {
					t.Errorf("%d uses of a gate make %v", times, passed)
				}
				renewed, _ := runAll(t, table, slices.Repeat([]impl.Call{{Kind: 8, Run: 2}}, times))
				if want := min(vers+min(times, 1), 5); renewed[0].Vers != want || !impl.TableOk(renewed) {
					t.Errorf("%d renewals of version %d make %v", times, vers, renewed[0])
				}
			}
		}
	}
}

// TestP87UpToTheLastVersion has a right to each version, so that each renewal takes effect.
func TestP87UpToTheLastVersion(t *testing.T) {
	for vers := range 6 {
		table := []impl.Thing{page(9, 5), run(0, right(1, vers, "rw-"))}
		table[0].Vers = vers
		for _, next := range []int{1, 2} {
			after, answers := runAll(t, table, slices.Repeat([]impl.Call{{Kind: 8, Run: 2}}, next))
			want := []int{0, -3}
			if vers == 5 {
				want = []int{-4, -4}
			}
			if !slices.Equal(answers, want[:next]) || after[0].Vers != min(vers+1, 5) || after[1].Slots[0] != right(1, vers, "rw-") {
				t.Errorf("renewing version %d is %v with %v", vers, answers, after)
			}
		}
	}
}

// TestP88LoudScripts puts a CallGate by a high process at each place of a script that is quiet; it may be refused.
func TestP88LoudScripts(t *testing.T) {
	outcomes := map[int]int{}
	for i, x := range quietCourses() {
		_, high := runsOf(x.table, x.observer)
		if i%9 > 0 || len(high) == 0 || len(x.calls) == 40 {
			continue
		}
		for place := range len(x.calls) + 1 {
			c := impl.Call{Kind: impl.CallGate, Run: high[place%len(high)], A: place % 4, B: i % 4, N: (i + place) % 100}
			calls := slices.Insert(slices.Clone(x.calls), place, c)
			_, answers := runAll(t, x.table, calls)
			outcomes[answers[place]]++
			if impl.RunQuiet(x.table, calls, x.observer) {
				t.Errorf("%vis quiet with %+v at %d, which is %d", x, c, place, answers[place])
			}
			if !impl.RunQuiet(x.table, x.calls, x.observer) || !impl.RunQuiet(x.table, calls, highest) {
				t.Errorf("%vis not quiet without %+v, or not to the highest label", x, c)
			}
		}
	}
	for answer := -2; answer <= 0; answer++ {
		if outcomes[answer] < 100 {
			t.Errorf("the outcomes are too few: %v", outcomes)
		}
	}
}

// TestP88AllGates has nothing but calls of the kind CallGate, of which the last, the first, or one in the middle is by a high process.
func TestP88AllGates(t *testing.T) {
	for length := 1; length <= 40; length++ {
		low := slices.Repeat([]impl.Call{{Kind: 9, Run: 5, A: 3}}, length)
		if !impl.RunQuiet(store(), low, label(0, 0)) || impl.RunQuiet(store(), low, lowest) {
			t.Errorf("%d calls of low processes are not quiet, or of high ones they are", length)
		}
		for place := range length {
			calls := slices.Clone(low)
			calls[place].Run = 6
			if impl.RunQuiet(store(), calls, label(0, 0)) || !impl.RunQuiet(store(), calls, label(1, 0)) {
				t.Errorf("call %d of %d through a gate by a high process is quiet, or by a low one is not", place, length)
			}
		}
	}
}

func TestP89LowOfLow(t *testing.T) {
	kept := 0
	for _, x := range someCourses() {
		low := impl.RunLow(x.table, x.calls, x.observer)
		if again := impl.RunLow(x.table, low, x.observer); !slices.Equal(again, low) {
			t.Errorf("of %vthe low calls are %v, and of these %v", x, low, again)
		}
		if len(low) > 0 && len(low) < len(x.calls) {
			kept++
		}
		for _, higher := range allLabels() {
			if !flows(x.observer, higher) {
				continue
			}
			more := impl.RunLow(x.table, x.calls, higher)
			if len(more) < len(low) || !slices.Equal(impl.RunLow(x.table, more, x.observer), low) {
				t.Errorf("of %vthe low calls are %v, but to %v %v", x, low, higher, more)
			}
		}
	}
	if kept < 500 {
		t.Errorf("of only %d scripts, some calls are kept and others are not", kept)
	}
}

// TestP89HigherKeepsMore counts the calls of sixteen processes, one with each label, in two tables, for each pair of observers.
func TestP89HigherKeepsMore(t *testing.T) {
	counts := func(observer impl.Label) int {
		count := 0
		for _, labels := range [][]impl.Label{allLabels()[:8], allLabels()[8:]} {
			var table []impl.Thing
			var calls []impl.Call
			for i, l := range labels {
				table = append(table, run(0))
				table[i].Label = l
				calls = append(calls, impl.Call{Kind: 3, Run: i + 1})
			}
			count += len(impl.RunLow(table, calls, observer))
		}
		return count
	}
	eachPair(func(low, high impl.Label) {
		if flows(low, high) && counts(low) > counts(high) {
			t.Errorf("%v keeps %d calls, and %v %d", low, counts(low), high, counts(high))
		}
	})
	for observer, want := range map[impl.Label]int{lowest: 1, label(0, 0): 4, label(1, 2): 4, label(3, 3): 4, label(1, 0): 8, highest: 16} {
		if got := counts(observer); got != want {
			t.Errorf("%v keeps %d calls, want %d", observer, got, want)
		}
	}
}

func TestP90SingleCall(t *testing.T) {
	calls := 0
	check := func(p play) {
		calls++
		after, answers, ok := impl.RunAll(p.before, []impl.Call{p.call})
		if !ok || !slices.Equal(answers, []int{p.answer}) || !sameTable(after, p.after) {
			t.Errorf("%vis %v, %v with\n%sbut alone %d with\n%s", p, ok, answers, impl.TableText(after), p.answer, impl.TableText(p.after))
		}
	}
	eachTurn(check)
	for _, table := range append(companies(), halls()...) {
		for number := range table {
			if isProcess(table, number+1) {
				eachCallOf(table, number+1, check)
			}
		}
	}
	if calls < 10000 {
		t.Errorf("only %d calls", calls)
	}
}

func TestP90EmptyScript(t *testing.T) {
	for _, table := range append(someTables(), append(halls(), yards()...)...) {
		for _, calls := range [][]impl.Call{nil, {}, make([]impl.Call, 3)[:0]} {
			if after, answers, ok := impl.RunAll(table, calls); !ok || len(answers) != 0 || !sameTable(after, table) {
				t.Errorf("the empty script in %v is %v, %v with %v", table, ok, answers, after)
			}
		}
	}
	for what, table := range badTables() {
		for _, calls := range [][]impl.Call{nil, {}} {
			if after, answers, ok := impl.RunAll(table, calls); ok || len(answers) != 0 || len(after) != 0 {
				t.Errorf("%s: the empty script is %v, %v with %v", what, ok, answers, after)
			}
		}
	}
}

// TestP91HighestOnly has calls by processes with the highest label, some of which have the objects of others before them.
func TestP91HighestOnly(t *testing.T) {
	var calls tally
	changed := 0
	for i, table := range append(halls(), append(yards(), companies()...)...) {
		for turn := range 4 {
			table := copyTable(table)
			for j := range table {
				// Also what they can modify, or most of their calls would be refused.
				if table[j].Kind == 3 && (j+turn)%3 > 0 || (i+j+turn)%2 == 0 {
					table[j].Label = highest
				}
			}
			_, runs := runsOf(table, label(3, 1))
			runs = slices.DeleteFunc(runs, func(number int) bool { return table[number-1].Label != highest })
			x := course{table, scriptOf(table, [][]int{runs}, 40, 4*i+turn), label(3, 1)}
			x.calls = slices.DeleteFunc(x.calls, func(c impl.Call) bool { return c.Kind == impl.CallGate })
			calls.add(x, func(impl.Call) bool { return true })
			after, _ := x.run(t)
			if !sameTable(after, table) {
				changed++
			}
			for _, observer := range allLabels() {
				if observer != highest && !looksSame(after, table, observer) {
					t.Errorf("to %v, %vlooks like\n%s", observer, x, impl.TableText(after))
				}
			}
		}
	}
	calls.passed[9], calls.refused[9] = 50, 50
	calls.check(t, "by processes with the highest label", 50)
	if changed < 100 {
		t.Errorf("only %d scripts change anything", changed)
	}
}

// TestP91EachObserver has one script that changes an object of each kind, by a process with the highest label.
func TestP91EachObserver(t *testing.T) {
	table := []impl.Thing{page(1, 0), node(0), pipe(0), run(9, right(1, 0, "rw-"), right(2, 0, "rw-"), right(3, 0, "rw-")), page(2, 0), run(0, right(5, 0, "rw-"), right(1, 0, "rw-"))}
	for i := range 4 {
		table[i].Label = highest
	}
	calls := []impl.Call{{Kind: 2, Run: 4, N: 7}, {Kind: 5, Run: 4, A: 1, B: 2}, {Kind: 6, Run: 4, A: 2, N: 3}, {Kind: 3, Run: 4, A: 0, B: 3, N: 7}, {Kind: 8, Run: 4, A: 3}, {Kind: 1, Run: 4}}
	after, answers := runAll(t, table, calls)
	if !slices.Equal(answers, []int{0, 0, 0, 0, 0, -3}) || sameTable(after, table) {
		t.Fatalf("the script is %v with %v", answers, after)
	}
	for _, observer := range allLabels() {
		if looksSame(after, table, observer) != (observer != highest) {
			t.Errorf("to %v, the script is seen, or to the highest label it is not", observer)
		}
	}
}

func TestP92EmptyScript(t *testing.T) {
	for _, table := range append(someTables(), append(halls(), yards()...)...) {
		for _, observer := range allLabels() {
			for _, calls := range [][]impl.Call{nil, {}} {
				if !impl.RunQuiet(table, calls, observer) || len(impl.RunLow(table, calls, observer)) != 0 {
					t.Errorf("to %v, the empty script in %v is not quiet, or has low calls", observer, table)
				}
			}
		}
	}
}

func TestP92NoGates(t *testing.T) {
	scripts := 0
	for _, x := range someCourses() {
		calls := slices.DeleteFunc(slices.Clone(x.calls), func(c impl.Call) bool { return c.Kind == impl.CallGate })
		if len(calls) > 1 {
			scripts++
		}
		for _, observer := range []impl.Label{x.observer, lowest, highest} {
			if !impl.RunQuiet(x.table, calls, observer) {
				t.Errorf("to %v, the script %v without gates is not quiet in\n%s", observer, calls, impl.TableText(x.table))
			}
		}
	}
	if scripts < 1000 {
		t.Errorf("only %d scripts", scripts)
	}
}

// TestP93WithoutOne leaves out each call by a high process in turn.
func TestP93WithoutOne(t *testing.T) {
	left, differ := [10]int{}, 0
	for i, x := range quietCourses() {
		if i%5 > 0 {
			continue
		}
		after, answers := x.run(t)
		for place, c := range x.calls {
			if x.low(c) {
				continue
			}
			left[c.Kind]++
			calls := slices.Delete(slices.Clone(x.calls), place, place+1)
			other, otherAnswers := runAll(t, x.table, calls)
			if !looksSame(after, other, x.observer) {
				t.Errorf("%vlooks like\n%sbut without %+v at %d like\n%s", x, impl.TableText(after), c, place, impl.TableText(other))
			}
			without := course{x.table, calls, x.observer}
			if got, want := without.lowAnswers(otherAnswers), x.lowAnswers(answers); !slices.Equal(got, want) {
				t.Errorf("%vhas the low results %v, but without %+v at %d %v", x, want, c, place, got)
			}
			if !sameTable(after, other) {
				differ++
			}
		}
	}
	for kind := impl.CallRead; kind < impl.CallGate; kind++ {
		if left[kind] < 100 {
			t.Errorf("%s is left out only %d times", demands[kind-1].name, left[kind])
		}
	}
	if differ < 1000 {
		t.Errorf("only %d of the calls that are left out change anything", differ)
	}
}

// TestP93EachKindOfHighCall leaves out one of the calls of each kind by a high process, that passes or is refused.
func TestP93EachKindOfHighCall(t *testing.T) {
	eachMeeting(func(x course, kind, answer int) {
		if kind == impl.CallGate {
			return
		}
		after, _ := x.run(t)
		place := slices.IndexFunc(x.calls, func(c impl.Call) bool { return !x.low(c) })
		other, _ := runAll(t, x.table, slices.Delete(slices.Clone(x.calls), place, place+1))
		if !impl.ViewSame(after, other, x.observer) {
			t.Errorf("%vlooks like\n%sbut without call %d like\n%s", x, impl.TableText(after), place, impl.TableText(other))
		}
	})
}

func TestP94HighCallsBefore(t *testing.T) {
	var high tally
	differ := 0
	for i, x := range quietCourses() {
		_, runs := runsOf(x.table, x.observer)
		before := course{x.table, scriptOf(x.table, [][]int{runs}, min(20, 40-len(x.calls)), 7*i), x.observer}.quietly()
		if len(before.calls) == 0 {
			continue
		}
		high.add(before, func(impl.Call) bool { return true })
		longer := course{x.table, append(before.calls, x.calls...), x.observer}
		one, answers := x.run(t)
		other, otherAnswers := longer.run(t)
		if !looksSame(one, other, x.observer) {
			t.Errorf("%vlooks like\n%sbut after %v like\n%s", x, impl.TableText(one), before.calls, impl.TableText(other))
		}
		if got, want := longer.lowAnswers(otherAnswers), x.lowAnswers(answers); !slices.Equal(got, want) {
			t.Errorf("%vhas the low results %v, but after %v %v", x, want, before.calls, got)
		}
		if !sameTable(one, other) && len(x.lowCalls()) > 0 {
			differ++
		}
	}
	high.passed[9], high.refused[9] = 100, 100
	high.check(t, "before the scripts", 100)
	if differ < 200 {
		t.Errorf("only %d scripts differ", differ)
	}
}

// TestP94EachKindOfHighCall has each kind of call by a high process, that passes or is refused, before each kind by a low one.
func TestP94EachKindOfHighCall(t *testing.T) {
	eachMeeting(func(x course, kind, answer int) {
		if kind == impl.CallGate {
			return
		}
		low := x.lowCalls()
		one, answers := runAll(t, x.table, low)
		high := slices.DeleteFunc(slices.Clone(x.calls), x.low)
		other, otherAnswers := runAll(t, x.table, append(high, low...))
		if !impl.ViewSame(one, other, x.observer) || !slices.Equal(otherAnswers[len(high):], answers) {
			t.Errorf("the low calls of %vare %v with\n%sbut after its high calls %v with\n%s", x, answers, impl.TableText(one), otherAnswers[len(high):], impl.TableText(other))
		}
	})
}

func TestP95Numbers(t *testing.T) {
	from := map[string]int{}
	for _, x := range someCourses() {
		after, _ := x.run(t)
		for i, was := range x.table {
			if was.Kind != 1 {
				continue
			}
			is := after[i].Num
			switch {
			case is == was.Num:
				from["the page"]++
			case is == 0:
				from["renewal"]++
			case slices.ContainsFunc(x.calls, func(c impl.Call) bool { return c.N == is }):
				from["a call"]++
			case slices.ContainsFunc(x.calls, func(c impl.Call) bool { return c.N%2 == is }):
				from["a gate"]++
			default:
				t.Errorf("%vmakes the number %d of page %d", x, is, i+1)
			}
		}
	}
	for _, what := range []string{"the page", "renewal", "a call", "a gate"} {
		if from[what] < 50 {
			t.Errorf("the numbers are from %v", from)
		}
	}
}

// TestP95Examples has numbers that are far apart, so that each of them tells where it is from.
func TestP95Examples(t *testing.T) {
	table := []impl.Thing{page(33, 0), gate(0, 1), run(77, right(1, 0, "rw-"), right(2, 0, "-w-"))}
	write, pass, renew, read := impl.Call{Kind: 2, Run: 3, N: 55}, impl.Call{Kind: 9, Run: 3, A: 1, N: 91}, impl.Call{Kind: 8, Run: 3, N: 66}, impl.Call{Kind: 1, Run: 3, N: 44}
	cases := []struct {
		calls []impl.Call
		want  int
	}{
		{nil, 33},
		{[]impl.Call{read}, 33},
		{[]impl.Call{write}, 55},
		{[]impl.Call{pass}, 1},
		{[]impl.Call{renew}, 0},
		{[]impl.Call{write, renew}, 0},
		{[]impl.Call{renew, write}, 0},
		{[]impl.Call{write, pass, read}, 1},
		{[]impl.Call{pass, write, read}, 55},
		{[]impl.Call{renew, pass, write}, 1},
	}
	for _, c := range cases {
		if after, answers := runAll(t, table, c.calls); after[0].Num != c.want {
			t.Errorf("after %v, which is %v, the page has the number %d, want %d", c.calls, answers, after[0].Num, c.want)
		}
	}
}

// roomyCalls is a copy of calls with room behind its end, with what would not be valid there.
func roomyCalls(calls []impl.Call) []impl.Call {
	return append(slices.Clone(calls), impl.Call{Kind: 9, Run: 99}, impl.Call{Kind: -1}, impl.Call{N: 1000})[:len(calls)]
}

// fewCourses has scripts in tables, and what is neither.
func fewCourses() []course {
	var out []course
	for i, x := range someCourses() {
		if i%17 == 0 {
			out = append(out, x)
		}
	}
	cases := 0
	noScripts(func(what string, table []impl.Thing, calls []impl.Call) {
		cases++
		if cases%23 == 0 {
			out = append(out, course{table, calls, allLabels()[cases%16]})
		}
	})
	for _, table := range everyTable() {
		out = append(out, course{table, nil, label(0, 0)}, course{table, []impl.Call{{Kind: 3, Run: 3}}, label(0, 0)})
	}
	return out
}

// results is what the three functions return.
type results struct {
	after   []impl.Thing
	answers []int
	ok      bool
	low     []impl.Call
	quiet   bool
}

func (x course) results() results {
	var r results
	r.after, r.answers, r.ok = impl.RunAll(x.table, x.calls)
	r.low = impl.RunLow(x.table, x.calls, x.observer)
	r.quiet = impl.RunQuiet(x.table, x.calls, x.observer)
	return r
}

func (r results) same(other results) bool {
	return sameTable(r.after, other.after) && slices.Equal(r.answers, other.answers) && r.ok == other.ok && slices.Equal(r.low, other.low) && r.quiet == other.quiet
}

// copied is the same results in other memory.
func (r results) copied() results {
	r.after, r.answers, r.low = copyTable(r.after), slices.Clone(r.answers), slices.Clone(r.low)
	return r
}

// overwrite changes all that can be reached from the results, also behind the ends of slices.
func (r results) overwrite() {
	overwrite(r.after)
	for i := range r.answers[:cap(r.answers)] {
		r.answers[:cap(r.answers)][i] = 1234
	}
	for i := range r.low[:cap(r.low)] {
		r.low[:cap(r.low)][i] = impl.Call{Kind: 88}
	}
}

// TestP80ArgumentsStay holds that no function changes its arguments, nor minds what is behind the ends of slices.
func TestP80ArgumentsStay(t *testing.T) {
	for _, x := range fewCourses() {
		roomyCourse := course{roomy(x.table), roomyCalls(x.calls), x.observer}
		table, calls := whole(roomyCourse.table), slices.Clone(roomyCourse.calls[:cap(roomyCourse.calls)])
		if got, want := roomyCourse.results(), x.results(); !got.same(want) {
			t.Errorf("what is behind the ends of slices changes %v", x)
		}
		if !reflect.DeepEqual(whole(roomyCourse.table), table) || !slices.Equal(roomyCourse.calls[:cap(roomyCourse.calls)], calls) {
			t.Errorf("the arguments are changed from %v and %v to %v and %v", table, calls, whole(roomyCourse.table), roomyCourse.calls)
		}
	}
}

// TestP80ResultsShareNoMemory holds that neither an argument nor another result changes with a result, nor the result with an argument.
func TestP80ResultsShareNoMemory(t *testing.T) {
	for _, x := range fewCourses() {
		roomyCourse := course{roomy(x.table), roomyCalls(x.calls), x.observer}
		table, calls := whole(roomyCourse.table), slices.Clone(roomyCourse.calls[:cap(roomyCourse.calls)])
		first, second := roomyCourse.results(), roomyCourse.results()
		want := first.copied()
		second.overwrite()
		if !first.same(want) || !reflect.DeepEqual(whole(roomyCourse.table), table) || !slices.Equal(roomyCourse.calls[:cap(roomyCourse.calls)], calls) {
			t.Errorf("the results of %v share memory with it or with other results", x)
		}
		overwrite(roomyCourse.table)
		for i := range roomyCourse.calls[:cap(roomyCourse.calls)] {
			roomyCourse.calls[:cap(roomyCourse.calls)][i] = impl.Call{Kind: 77}
		}
		if !first.same(want) || !x.results().same(want) {
			t.Errorf("the results of %v change with it", x)
		}
	}
}

// TestP80ObjectsShareNoMemory holds that no object of a result changes with another one, also where one slice is in several objects of the argument, and for the empty script.
func TestP80ObjectsShareNoMemory(t *testing.T) {
	slots, queue := []impl.Right{right(1, 0, "r--"), right(5, 0, "rw-"), {}, {}}, []int{1, 2}
	shared := []impl.Thing{{Kind: 2, Slots: slots}, {Kind: 3, Slots: slots}, {Kind: 2, Slots: slots}, {Kind: 3, Slots: slots}, {Kind: 4, Queue: queue}, {Kind: 4, Queue: queue}}
	check := func(x course) {
		after, _ := x.run(t)
		for i := range after {
			want := copyTable(after)
			slots, queue := after[i].Slots[:cap(after[i].Slots)], after[i].Queue[:cap(after[i].Queue)]
			for j := range slots {
				slots[j] = right(6, 6, "rwk")
			}
			for j := range queue {
				queue[j] = 2000
			}
			after[i], want[i] = impl.Thing{}, impl.Thing{}
			if !sameTable(after, want) {
				t.Fatalf("object %d of the result of %vshares memory with another one", i+1, x)
			}
		}
	}
	for length := range 41 {
		check(course{shared, scriptOf(shared, [][]int{{2, 4}}, length, length), highest})
		check(course{store(), scriptOf(store(), [][]int{{5, 6}}, length, length), highest})
	}
	for i, x := range someCourses() {
		if i%13 == 0 {
			check(x)
		}
	}
}

// TestP80NilIsEmpty holds that a nil slice and an empty one count as the same.
func TestP80NilIsEmpty(t *testing.T) {
	for _, x := range fewCourses() {
		one, other := x, x
		one.table, other.table = copyTable(x.table), copyTable(x.table)
		for i, thing := range x.table {
			if len(thing.Slots) == 0 {
				one.table[i].Slots, other.table[i].Slots = nil, []impl.Right{}
			}
			if len(thing.Queue) == 0 {
				one.table[i].Queue, other.table[i].Queue = nil, []int{}
			}
		}
		if len(x.calls) == 0 {
			one.calls, other.calls = nil, []impl.Call{}
		}
		if !one.results().same(other.results()) {
			t.Errorf("%vdepends on nil slices", x)
		}
	}
	for _, empty := range [][]impl.Thing{nil, {}} {
		for _, calls := range [][]impl.Call{nil, {}, {{Kind: 3, Run: 1}}} {
			for _, observer := range append(allLabels(), label(4, 0)) {
				if r := (course{empty, calls, observer}).results(); !r.same(results{}) {
					t.Errorf("%#v counts as a table: %v", empty, r)
				}
			}
		}
	}
}

// TestP80AtTheSameTime has scripts that are executed at the same time, in one table.
func TestP80AtTheSameTime(t *testing.T) {
	table := halls()[0]
	var all sync.WaitGroup
	for i, observer := range allLabels() {
		x := course{table, scriptOf(table, [][]int{{6, 7, 8}}, 40, i), observer}
		after, answers := wantRun(table, x.calls)
		want := results{after, answers, true, x.lowCalls(), !slices.ContainsFunc(x.calls, x.loud)}
		all.Go(func() {
			for range 100 {
				if got := x.results(); !got.same(want) {
					t.Errorf("%vis %v, want %v", x, got, want)
				}
			}
		})
	}
	all.Wait()
}

// TestP80NothingGoesOn holds that a call leaves nothing behind that still runs, also where it returns false.
func TestP80NothingGoesOn(t *testing.T) {
	calls := scriptOf(store(), [][]int{{5, 6}}, 40, 1)
	before := runtime.NumGoroutine()
	for range 1000 {
		course{store(), calls, highest}.results()
		course{nil, calls, highest}.results()
		course{store(), append(calls[:40:40], calls[0]), highest}.results()
	}
	// What has nothing left to do may need a moment to end.
	for range 1000000 {
		if runtime.NumGoroutine() <= before {
			return
		}
		runtime.Gosched()
	}
	t.Errorf("%d goroutines are left", runtime.NumGoroutine()-before)
}

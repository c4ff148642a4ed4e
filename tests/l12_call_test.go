package tests

import (
	"fmt"
	"reflect"
	"slices"
	"testing"

	"loop.example/drawbar/impl"
)

// lessened is RightLess, by the letters; the flags are the number modulo 8.
func lessened(r impl.Right, flags int) impl.Right {
	if r == noRight {
		return r
	}
	return right(r.Thing, r.Vers, lettersLess[lettersOf(r)][flags%8])
}

// wantDo is what the document says of a valid call in a table.
func wantDo(table []impl.Thing, c impl.Call) ([]impl.Thing, int) {
	if !isProcess(table, c.Run) {
		return nil, -1
	}
	after := copyTable(table)
	answer := wantCheck(table, c)
	if answer == 0 {
		answer = wantEffect(after, c)
	}
	after[c.Run-1].Num = answer
	return after, answer
}

// wantEffect makes a call that passes the check.
func wantEffect(table []impl.Thing, c impl.Call) int {
	process := table[c.Run-1]
	r := process.Slots[c.A]
	if c.Kind == 3 {
		process.Slots[c.B] = lessened(r, c.N)
		return 0
	}
	object := &table[r.Thing-1]
	if r.Vers != object.Vers {
		return 0
	}
	answer := 0
	switch c.Kind {
	case 1:
		answer = object.Num
	case 2:
		object.Num = c.N
	case 4:
		process.Slots[c.B] = object.Slots[c.N%4]
		if r.Weak {
			process.Slots[c.B] = lessened(object.Slots[c.N%4], 1)
		}
	case 5:
		object.Slots[c.N%4] = process.Slots[c.B]
	case 6:
		if len(object.Queue) < 3 {
			object.Queue = append(object.Queue, c.N)
		} else {
			answer = -4
		}
	case 7:
		if len(object.Queue) > 0 {
			answer = object.Queue[0]
			object.Queue = object.Queue[1:]
		} else {
			answer = -4
		}
	case 8:
		if object.Vers < 5 {
			renewed := shapes[object.Kind-1].plain()
			renewed.Label, renewed.Vers = object.Label, object.Vers+1
			*object = renewed
		} else {
			answer = -4
		}
	case 9:
		table[object.To-1].Num = c.N % 2
		object.Num = min(object.Num+1, 99)
	}
	if !flows(object.Label, process.Label) {
		return 0
	}
	return answer
}

// play is a call in a table.
type play struct {
	before []impl.Thing
	call   impl.Call
	// The object of the call, or 0.
	object int
	check  int
	after  []impl.Thing
	answer int
}

func playOf(before []impl.Thing, c impl.Call) play {
	p := play{before: before, call: c, check: impl.CheckCall(before, c)}
	if c.Kind != impl.CallCopy {
		p.object = before[c.Run-1].Slots[c.A].Thing
	}
	p.after, p.answer = impl.CallDo(before, c)
	if len(p.after) != len(before) {
		panic(fmt.Sprintf("%v makes %v", p, p.after))
	}
	return p
}

func (p play) String() string {
	return fmt.Sprintf("%s %+v in\n%s", demands[p.call.Kind-1].name, p.call, impl.TableText(p.before))
}

func (p play) used() impl.Right {
	return p.before[p.call.Run-1].Slots[p.call.A]
}

// live says whether the right used is to the current version of an object.
func (p play) live() bool {
	r := p.used()
	return r != noRight && r.Vers == p.before[r.Thing-1].Vers
}

func (p play) sees() bool {
	return flows(p.before[p.object-1].Label, p.before[p.call.Run-1].Label)
}

// target is the number of the page to which the gate of a CallGate goes, or 0.
func (p play) target() int {
	if p.call.Kind != impl.CallGate || p.object == 0 {
		return 0
	}
	return p.before[p.object-1].To
}

// takesPlace says whether the call is one of a kind that passes the check.
func (p play) takesPlace(kind int) bool {
	return p.call.Kind == kind && p.check == 0
}

// changed has the numbers of the objects that differ.
func (p play) changed() []int {
	var out []int
	for i := range p.before {
		if !sameThing(p.before[i], p.after[i]) {
			out = append(out, i+1)
		}
	}
	return out
}

// quietly is the table before the call, with the answer, and with a change if there is one: what is to be after it.
func (p play) quietly(answer int, change func(table []impl.Thing)) []impl.Thing {
	out := copyTable(p.before)
	if change != nil {
		change(out)
	}
	out[p.call.Run-1].Num = answer
	return out
}

// eachSceneTable goes through scenes with few labels, in which the object has something in it, at versions up to the last.
func eachSceneTable(check func(table []impl.Thing)) {
	for _, labels := range [][2]impl.Label{seesOnly, touchesOnly, seesBoth, seesNeither} {
		for _, shape := range shapes {
			for _, letters := range append([]string{""}, rightLetters...) {
				for _, gone := range []bool{false, true} {
					if gone && (letters == "" || shape.vers[1] == 0) {
						continue
					}
					plain := scene{shape.kind, labels[0], labels[1], letters, false}.table()
					for _, object := range contents(plain[sceneObject-1]) {
						table := with(plain, sceneObject-1, func(x *impl.Thing) { *x = copyThing(object) })
						if letters != "" {
							table[sceneProcess-1].Slots[sceneSlot].Vers = object.Vers
						}
						if gone {
							table[sceneProcess-1].Slots[sceneSlot].Vers--
						}
						check(table)
					}
				}
			}
		}
	}
}

// eachPlay goes through calls of all kinds in scenes and in other tables.
func eachPlay(check func(p play)) {
	eachSceneTable(func(table []impl.Thing) {
		for _, d := range demands {
			for _, c := range [][2]int{{0, 0}, {1, 7}, {2, 2}, {sceneSlot, 99}, {3, 5}} {
				check(playOf(table, impl.Call{Kind: d.kind, Run: sceneProcess, A: sceneSlot, B: c[0], N: c[1]}))
			}
		}
	})
	for _, table := range someTables() {
		for _, table := range [][]impl.Thing{table, alike(table)} {
			for number := range table {
				if isProcess(table, number+1) {
					eachCallOf(table, number+1, check)
				}
			}
		}
	}
}

func eachCallOf(table []impl.Thing, number int, check func(p play)) {
	for _, d := range demands {
		for a := range 4 {
			for _, n := range []int{1, 4, 86} {
				check(playOf(table, impl.Call{Kind: d.kind, Run: number, A: a, B: (a + n) % 4, N: n}))
			}
		}
	}
}

func TestP39TableAfterwards(t *testing.T) {
	plays := 0
	eachPlay(func(p play) {
		plays++
		if !impl.TableOk(p.after) {
			t.Errorf("%vmakes no table: %v", p, p.after)
			return
		}
		if p.after[p.call.Run-1].Num != p.answer {
			t.Errorf("%vthe result is %d, and the number of the process %d", p, p.answer, p.after[p.call.Run-1].Num)
		}
		for i, was := range p.before {
			is := p.after[i]
			if is.Kind != was.Kind || is.Label != was.Label || is.To != was.To || is.Vers < was.Vers {
				t.Errorf("%vmakes %v of %v", p, is, was)
			}
		}
	})
	if plays < 100000 {
		t.Errorf("only %d calls", plays)
	}
}

// TestP39AllCalls holds that each call does what the document says, and nothing else.
func TestP39AllCalls(t *testing.T) {
	answers := map[int]int{}
	eachPlay(func(p play) {
		want, answer := wantDo(p.before, p.call)
		answers[min(answer, 1)]++
		if p.answer != answer || !sameTable(p.after, want) {
			t.Errorf("%vis %d with\n%swant %d with\n%s", p, p.answer, impl.TableText(p.after), answer, impl.TableText(want))
		}
	})
	for answer := -4; answer <= 1; answer++ {
		if answers[answer] < 100 {
			t.Errorf("only %d calls are %d", answers[answer], answer)
		}
	}
}

// TestP39AllLabels has each call with each pair of labels.
func TestP39AllLabels(t *testing.T) {
	eachScene(func(s scene) {
		table := s.table()
		for _, d := range demands {
			c := sceneCall(d.kind)
			want, answer := wantDo(table, c)
			if got, is := impl.CallDo(table, c); is != answer || !sameTable(got, want) {
				t.Errorf("%s in %+v is %d with\n%swant %d with\n%s", d.name, s, is, impl.TableText(got), answer, impl.TableText(want))
			}
		}
	})
}

// TestP39AllFields has all numbers and pairs of slots, in tables with all kinds.
func TestP39AllFields(t *testing.T) {
	for _, table := range [][]impl.Thing{alike(wide()), wide()} {
		for _, number := range []int{3, 7} {
			for _, d := range demands {
				for slots := range 16 {
					for n := range 100 {
						c := impl.Call{Kind: d.kind, Run: number, A: slots / 4, B: slots % 4, N: n}
						want, answer := wantDo(table, c)
						if got, is := impl.CallDo(table, c); is != answer || !sameTable(got, want) {
							t.Errorf("%+v is %d with\n%swant %d with\n%s", c, is, impl.TableText(got), answer, impl.TableText(want))
						}
					}
				}
			}
		}
	}
}

// TestP39Outcomes has, for each kind of call, what comes of a live right, of one to an earlier version, and of one that is refused, for a process that observes the object and for one that does not.
func TestP39Outcomes(t *testing.T) {
	full := pipe(3, 7, 8, 9)
	gone, weak, null := "gone", "--k", ""
	cases := []struct {
		call   int
		object impl.Thing
		labels [2]impl.Label
		right  string // its letters, or none if it is null, or that it is gone
		answer int
		text   string // of the object afterwards, without its label; empty if it stays
	}{
		{impl.CallRead, page(42, 3), seesBoth, "r--", 42, ""},
		{impl.CallRead, page(42, 3), seesOnly, "r-k", 42, ""},
		{impl.CallRead, page(42, 3), seesOnly, gone, -3, ""},
		{impl.CallRead, page(42, 3), seesOnly, weak, -1, ""},
		{impl.CallRead, page(42, 3), seesBoth, null, -1, ""},
		{impl.CallRead, page(42, 3), touchesOnly, "rw-", -2, ""},
		{impl.CallRead, page(42, 3), touchesOnly, gone, -2, ""},
		{impl.CallRead, page(42, 3), touchesOnly, weak, -1, ""},
		{impl.CallRead, full, seesBoth, "rw-", -1, ""},
		{impl.CallWrite, page(42, 3), seesBoth, "-w-", 0, "page 3 7"},
		{impl.CallWrite, page(42, 3), touchesOnly, "-w-", 0, "page 3 7"},
		{impl.CallWrite, page(42, 3), seesBoth, gone, -3, ""},
		{impl.CallWrite, page(42, 3), touchesOnly, gone, 0, ""},
		{impl.CallWrite, page(42, 3), seesOnly, "rw-", -2, ""},
		{impl.CallWrite, page(42, 3), seesNeither, gone, -2, ""},
		{impl.CallWrite, page(42, 3), touchesOnly, weak, -1, ""},
		{impl.CallWrite, page(42, 3), touchesOnly, null, -1, ""},
		{impl.CallCopy, page(42, 3), seesNeither, gone, 0, ""},
		{impl.CallCopy, page(42, 3), seesBoth, weak, 0, ""},
		{impl.CallCopy, page(42, 3), touchesOnly, null, 0, ""},
		{impl.CallFetch, node(3, right(1, 4, "rw-")), seesBoth, "r--", 0, ""},
		{impl.CallFetch, node(3, right(1, 4, "rw-")), seesOnly, gone, -3, ""},
		{impl.CallFetch, node(3, right(1, 4, "rw-")), touchesOnly, "rw-", -2, ""},
		{impl.CallFetch, node(3, right(1, 4, "rw-")), seesBoth, weak, -1, ""},
		{impl.CallStore, node(3), seesBoth, "-w-", 0, "node 3 0 - - - 3.0rw-"},
		{impl.CallStore, node(3), touchesOnly, "rw-", 0, "node 3 0 - - - 3.0rw-"},
		{impl.CallStore, node(3), seesBoth, gone, -3, ""},
		{impl.CallStore, node(3), touchesOnly, gone, 0, ""},
		{impl.CallStore, node(3), seesOnly, "rw-", -2, ""},
		{impl.CallStore, node(3), touchesOnly, weak, -1, ""},
		{impl.CallSend, pipe(3, 8), seesBoth, "-w-", 0, "pipe 3 0 <8 <7"},
		{impl.CallSend, pipe(3, 8), touchesOnly, "-w-", 0, "pipe 3 0 <8 <7"},
		{impl.CallSend, full, seesBoth, "-w-", -4, ""},
		{impl.CallSend, full, touchesOnly, "-w-", 0, ""},
		{impl.CallSend, full, seesBoth, gone, -3, ""},
		{impl.CallSend, full, touchesOnly, gone, 0, ""},
		{impl.CallSend, pipe(3), touchesOnly, gone, 0, ""},
		{impl.CallSend, full, seesOnly, "rw-", -2, ""},
		{impl.CallSend, full, touchesOnly, weak, -1, ""},
		{impl.CallTake, full, seesBoth, "rw-", 7, "pipe 3 0 <8 <9"},
		{impl.CallTake, pipe(3), seesBoth, "rw-", -4, ""},
		{impl.CallTake, pipe(3, 0), seesBoth, "rw-", 0, "pipe 3 0"},
		{impl.CallTake, full, seesBoth, gone, -3, ""},
		{impl.CallTake, full, touchesOnly, "rw-", -2, ""},
		{impl.CallTake, full, seesOnly, "rw-", -2, ""},
		{impl.CallTake, full, seesBoth, "-w-", -1, ""},
		{impl.CallTake, full, seesBoth, "r--", -1, ""},
		{impl.CallRenew, page(42, 3), seesBoth, "-w-", 0, "page 4 0"},
		{impl.CallRenew, page(42, 3), touchesOnly, "-w-", 0, "page 4 0"},
		{impl.CallRenew, full, touchesOnly, "rw-", 0, "pipe 4 0"},
		{impl.CallRenew, node(3, right(1, 4, "rw-")), seesBoth, "rw-", 0, "node 4 0 - - - -"},
		{impl.CallRenew, page(42, 5), seesBoth, "-w-", -4, ""},
		{impl.CallRenew, page(42, 5), touchesOnly, "-w-", 0, ""},
		{impl.CallRenew, page(42, 3), seesBoth, gone, -3, ""},
		{impl.CallRenew, page(42, 5), touchesOnly, gone, 0, ""},
		{impl.CallRenew, page(42, 3), seesOnly, "rw-", -2, ""},
		{impl.CallRenew, page(42, 3), touchesOnly, weak, -1, ""},
		{impl.CallRenew, gate(5, 1), seesBoth, "rw-", -1, ""},
		{impl.CallRenew, run(5), seesBoth, "rw-", -1, ""},
		{impl.CallGate, gate(5, 1), seesBoth, "-w-", 0, "gate 0 6 >1"},
		{impl.CallGate, gate(5, 1), touchesOnly, "-w-", 0, "gate 0 6 >1"},
		{impl.CallGate, gate(5, 1), seesOnly, "rw-", -2, ""},
		{impl.CallGate, gate(5, 1), touchesOnly, weak, -1, ""},
		{impl.CallGate, gate(5, 1), seesBoth, null, -1, ""},
		{impl.CallGate, page(5, 3), seesBoth, "rw-", -1, ""},
	}
	for _, c := range cases {
		table := scene{c.object.Kind, c.labels[0], c.labels[1], "rw-", false}.table()
		labels := table[sceneObject-1].Label
		table[sceneObject-1] = copyThing(c.object)
		table[sceneObject-1].Label = labels
		used := right(sceneObject, c.object.Vers, "rw-")
		switch c.right {
		case gone:
			used.Vers--
		case null:
			used = noRight
		default:
			used = right(sceneObject, c.object.Vers, c.right)
		}
		table[sceneProcess-1].Slots[sceneSlot] = used
		want := with(table, sceneProcess-1, func(x *impl.Thing) { x.Num = c.answer })
		if c.call == impl.CallCopy {
			want[sceneProcess-1].Slots[1] = used
		}
		if c.call == impl.CallFetch && c.answer == 0 {
			want[sceneProcess-1].Slots[1] = noRight
		}
		got, answer := impl.CallDo(table, sceneCall(c.call))
		what := fmt.Sprintf("%s with %q of %v by labels %v", demands[c.call-1].name, c.right, c.object, c.labels)
		if answer != c.answer {
			t.Errorf("%s is %d, want %d", what, answer, c.answer)
		}
		if c.text != "" {
			line := bare(got[sceneObject-1])
			if line != c.text {
				t.Errorf("%s leaves %q, want %q", what, line, c.text)
			}
			want[sceneObject-1] = got[sceneObject-1]
		}
		if c.call == impl.CallGate && c.answer == 0 {
			want[0].Num = 1
		}
		if !sameTable(got, want) {
			t.Errorf("%s leaves\n%swant\n%s", what, impl.TableText(got), impl.TableText(want))
		}
	}
}

// bare is the line of an object without its number and label.
func bare(thing impl.Thing) string {
	out := fmt.Sprintf("%s %d %d", shapes[thing.Kind-1].name, thing.Vers, thing.Num)
	for _, r := range thing.Slots {
		out += " " + impl.RightText(r)
	}
	for _, n := range thing.Queue {
		out += fmt.Sprint(" <", n)
	}
	if thing.Kind == 5 {
		out += fmt.Sprint(" >", thing.To)
	}
	return out
}

// isNothing says whether CallDo and CallMoves return what they do for invalid arguments.
func isNothing(table []impl.Thing, c impl.Call) bool {
	after, answer := impl.CallDo(table, c)
	return len(after) == 0 && answer == -1 && len(impl.CallMoves(table, c)) == 0
}

func TestP39NoTable(t *testing.T) {
	for what, table := range badTables() {
		for number := range 10 {
			for _, d := range demands {
				for a := range 4 {
					c := impl.Call{Kind: d.kind, Run: number, A: a, B: 3 - a, N: 7}
					if !isNothing(table, c) {
						t.Errorf("%s: %+v does something", what, c)
					}
				}
			}
		}
	}
}

// TestP39SpoiledTable has lists of objects that are not a table for something that the call has nothing to do with.
func TestP39SpoiledTable(t *testing.T) {
	for _, labels := range [][2]impl.Label{seesOnly, touchesOnly, seesBoth, seesNeither} {
		for _, shape := range shapes {
			for what, table := range spoiled(scene{shape.kind, labels[0], labels[1], "rw-", false}.table()) {
				for _, d := range demands {
					if !isNothing(table, sceneCall(d.kind)) {
						t.Errorf("%s: %s of a %s does something", what, d.name, shape.name)
					}
				}
			}
		}
	}
}

func TestP39InvalidCall(t *testing.T) {
	for _, shape := range shapes {
		for _, letters := range []string{"", "rw-", "--k"} {
			table := scene{shape.kind, seesBoth[0], seesBoth[1], letters, false}.table()
			for _, d := range demands {
				for what, c := range invalidCalls(sceneCall(d.kind)) {
					if !isNothing(table, c) {
						t.Errorf("%s: %s of a %s does something", what, d.name, shape.name)
					}
				}
			}
		}
	}
}

func TestP39NoProcess(t *testing.T) {
	for _, table := range someTables() {
		for number := 1; number <= 8; number++ {
			if isProcess(table, number) {
				continue
			}
			for _, d := range demands {
				for a := range 4 {
					if !isNothing(table, impl.Call{Kind: d.kind, Run: number, A: a, N: a}) {
						t.Errorf("%s by object %d of %v does something", d.name, number, table)
					}
				}
			}
		}
	}
}

func TestP40Refused(t *testing.T) {
	answers := map[int]int{}
	eachPlay(func(p play) {
		if p.check == 0 {
			return
		}
		answers[p.check]++
		if p.answer != p.check || !sameTable(p.after, p.quietly(p.check, nil)) {
			t.Errorf("%vis checked as %d, and makes %d with\n%s", p, p.check, p.answer, impl.TableText(p.after))
		}
	})
	if answers[-1] < 1000 || answers[-2] < 1000 || answers[-3] < 500 || len(answers) != 3 {
		t.Errorf("the answers are %v", answers)
	}
}

// TestP40OwnProcesses has a process with rights to itself and to another one, which serve for nothing but to be copied.
func TestP40OwnProcesses(t *testing.T) {
	for _, letters := range rightLetters {
		table := []impl.Thing{run(9, right(1, 0, letters), right(2, 0, letters)), run(8, right(1, 0, letters), right(2, 0, letters))}
		for number := 1; number <= 2; number++ {
			for a := range 2 {
				for _, d := range demands {
					c := impl.Call{Kind: d.kind, Run: number, A: a, B: 3, N: 7}
					want := with(table, number-1, func(x *impl.Thing) { x.Num = -1 })
					if d.name == "CallCopy" {
						want[number-1].Num, want[number-1].Slots[3] = 0, right(a+1, 0, letters)
					}
					got, answer := impl.CallDo(table, c)
					if !sameTable(got, want) || answer != want[number-1].Num {
						t.Errorf("%s of process %d by %d with %s is %d with %v", d.name, a+1, number, letters, answer, got)
					}
				}
			}
		}
	}
}

func TestP41OnlyWhatIsMeant(t *testing.T) {
	eachPlay(func(p play) {
		allowed := []int{p.call.Run, p.object, p.target()}
		for _, number := range p.changed() {
			if !slices.Contains(allowed, number) {
				t.Errorf("%vchanges object %d", p, number)
			}
		}
	})
}

// TestP41OthersAlike has a table full of objects like the one of the call, of which only this one changes.
func TestP41OthersAlike(t *testing.T) {
	cases := []struct {
		call int
		fill impl.Thing
	}{
		{impl.CallWrite, page(42, 0)}, {impl.CallStore, node(0)}, {impl.CallSend, pipe(0, 1)}, {impl.CallTake, pipe(0, 1)},
		{impl.CallRenew, page(42, 0)}, {impl.CallRenew, node(0, right(1, 0, "r--"))}, {impl.CallRenew, pipe(0, 1)}, {impl.CallGate, gate(4, 1)},
	}
	for _, c := range cases {
		for object := 2; object <= 7; object++ {
			table := []impl.Thing{page(42, 0)}
			for len(table) < 7 {
				table = append(table, copyThing(c.fill))
			}
			table = append(table, run(55, right(object, 0, "rw-"), right(1, 0, "rw-")))
			call := impl.Call{Kind: c.call, Run: 8, A: 0, B: 1, N: 7}
			want := []int{object, 8}
			if c.call == impl.CallGate {
				want = []int{1, object, 8}
			}
			if got := impl.CallMoves(table, call); !slices.Equal(got, want) {
				t.Errorf("%s of object %d changes %v, want %v", demands[c.call-1].name, object, got, want)
			}
		}
	}
}

func TestP42MovesAreWhatDiffers(t *testing.T) {
	lengths := map[int]int{}
	check := func(p play) {
		got := impl.CallMoves(p.before, p.call)
		lengths[len(got)]++
		if !slices.Equal(got, p.changed()) {
			t.Errorf("%vCallMoves is %v, want %v", p, got, p.changed())
		}
		for i, number := range got {
			if i > 0 && number <= got[i-1] {
				t.Errorf("%vCallMoves %v is not ascending", p, got)
			}
			if number != p.call.Run && number != p.target() && !impl.CheckTouches(p.before, p.call.Run, number) {
				t.Errorf("%vchanges object %d, which the process cannot modify", p, number)
			}
		}
	}
	eachPlay(func(p play) {
		check(p)
		// Once more: the process has the result already.
		check(playOf(p.after, p.call))
	})
	for length := range 3 {
		if lengths[length] < 500 {
			t.Errorf("only %d calls change %d objects", lengths[length], length)
		}
	}
	if lengths[3] < 20 {
		t.Errorf("only %d calls change three objects", lengths[3])
	}
}

func TestP42Examples(t *testing.T) {
	table := []impl.Thing{
		page(1, 5),
		gate(98, 1),
		run(0, right(1, 5, "rw-"), right(2, 0, "-w-"), right(4, 0, "rw-"), right(5, 0, "rw-")),
		pipe(0, 0, 0),
		node(0, right(1, 5, "rw-"), right(5, 0, "rw-")),
		run(-1),
	}
	call := func(kind, a, b, n int) impl.Call { return impl.Call{Kind: kind, Run: 3, A: a, B: b, N: n} }
	number := func(n int) func(table []impl.Thing) {
		return func(table []impl.Thing) { table[2].Num = n }
	}
	cases := []struct {
		what   string
		change func(table []impl.Thing)
		call   impl.Call
		want   []int
	}{
		{"read a new number", number(0), call(1, 0, 0, 0), []int{3}},
		{"read the number that it has", number(1), call(1, 0, 0, 0), nil},
		{"write another number", number(0), call(2, 0, 0, 2), []int{1}},
		{"write the same number", number(0), call(2, 0, 0, 1), nil},
		{"write the same number, with another result", number(9), call(2, 0, 0, 1), []int{3}},
		{"write, with another result", number(9), call(2, 0, 0, 2), []int{1, 3}},
		{"copy onto itself", number(0), call(3, 0, 0, 7), nil},
		{"copy less onto itself", number(0), call(3, 0, 0, 5), []int{3}},
		{"copy", number(0), call(3, 0, 1, 7), []int{3}},
		{"fetch what it has", number(0), call(4, 3, 0, 0), nil},
		{"fetch what it has into the slot used", number(0), call(4, 3, 3, 1), nil},
		{"fetch the null capability", number(0), call(4, 3, 3, 2), []int{3}},
		{"store what is there", number(0), call(5, 3, 0, 4), nil},
		{"store something else", number(0), call(5, 3, 0, 5), []int{5}},
		{"store, with another result", number(9), call(5, 3, 2, 3), []int{3, 5}},
		{"send", number(0), call(6, 2, 0, 0), []int{4}},
		{"take the number that it has", number(0), call(7, 2, 0, 0), []int{4}},
		{"take another number", number(7), call(7, 2, 0, 0), []int{3, 4}},
		{"renew at the last version", number(-4), call(8, 0, 0, 0), nil},
		{"renew at the last version, with another result", number(0), call(8, 0, 0, 0), []int{3}},
		{"renew", number(0), call(8, 2, 0, 0), []int{4}},
		{"gate", number(0), call(9, 1, 0, 2), []int{1, 2}},
		{"gate, with another result", number(5), call(9, 1, 0, 2), []int{1, 2, 3}},
		{"gate with the bit that is there", number(0), call(9, 1, 0, 3), []int{2}},
		{"gate at the last count", func(table []impl.Thing) { table[1].Num = 99 }, call(9, 1, 0, 3), nil},
		{"gate at the last count with another bit", func(table []impl.Thing) { table[1].Num = 99 }, call(9, 1, 0, 4), []int{1}},
		{"refused", number(0), call(9, 0, 0, 4), []int{3}},
		{"refused as before", number(-1), call(9, 0, 0, 4), nil},
		{"refused by the null capability", number(-1), impl.Call{Kind: 1, Run: 6}, nil},
		{"copy the null capability", number(-1), impl.Call{Kind: 3, Run: 6, B: 3, N: 7}, []int{6}},
	}
	for _, c := range cases {
		before := copyTable(table)
		c.change(before)
		if got := impl.CallMoves(before, c.call); !slices.Equal(got, c.want) {
			t.Errorf("%s: CallMoves is %v, want %v", c.what, got, c.want)
		}
	}
}

func TestP43Read(t *testing.T) {
	reads := 0
	eachPlay(func(p play) {
		if !p.takesPlace(impl.CallRead) {
			return
		}
		reads++
		want := p.before[p.object-1].Num
		if p.answer != want || !sameTable(p.after, p.quietly(want, nil)) {
			t.Errorf("%vis %d with\n%s", p, p.answer, impl.TableText(p.after))
		}
	})
	if reads < 100 {
		t.Errorf("only %d reads", reads)
	}
}

func TestP43EachNumber(t *testing.T) {
	for n := range 100 {
		for vers := range 6 {
			for _, letters := range []string{"r--", "rw-", "r-k"} {
				table := []impl.Thing{run(-2, noRight, right(2, vers, letters)), page(n, vers)}
				got, answer := impl.CallDo(table, impl.Call{Kind: impl.CallRead, Run: 1, A: 1, B: 2, N: 99 - n})
				if want := []impl.Thing{run(n, noRight, right(2, vers, letters)), page(n, vers)}; answer != n || !sameTable(got, want) {
					t.Errorf("reading %d at version %d is %d with %v", n, vers, answer, got)
				}
			}
		}
	}
}

func TestP44Write(t *testing.T) {
	writes := map[bool]int{}
	eachPlay(func(p play) {
		if !p.takesPlace(impl.CallWrite) {
			return
		}
		writes[p.live()]++
		want := p.quietly(0, func(table []impl.Thing) {
			if p.live() {
				table[p.object-1].Num = p.call.N
			}
		})
		if p.answer != 0 || !sameTable(p.after, want) {
			t.Errorf("%vis %d with\n%s", p, p.answer, impl.TableText(p.after))
		}
	})
	if writes[true] < 50 || writes[false] < 50 {
		t.Errorf("the writes are %v", writes)
	}
}

func TestP44EachNumber(t *testing.T) {
	for n := range 100 {
		for _, letters := range []string{"-w-", "rw-"} {
			for _, labels := range [][2]impl.Label{seesBoth, touchesOnly} {
				for was := range 3 {
					table := scene{1, labels[0], labels[1], letters, false}.table()
					table[sceneObject-1].Vers, table[sceneObject-1].Num = 2, 50
					table[sceneProcess-1].Slots = []impl.Right{right(2, was, letters), {}, {}, {}}
					got, answer := impl.CallDo(table, impl.Call{Kind: impl.CallWrite, Run: sceneProcess, A: 0, N: n})
					want, wantAnswer := 50, 0
					if was == 2 {
						want = n
					} else if labels == seesBoth {
						wantAnswer = -3
					}
					if answer != wantAnswer || got[sceneObject-1].Num != want || got[sceneObject-1].Vers != 2 {
						t.Errorf("writing %d by labels %v at version %d of 2 is %d with %v", n, labels, was, answer, got)
					}
				}
			}
		}
	}
}

// eachCopy goes through all rights that a table can have here, pairs of slots and numbers.
func eachCopy(check func(p play)) {
	rights := []impl.Right{noRight, right(3, 0, "rw-"), right(3, 0, "r-k"), right(4, 0, "-w-"), right(5, 0, "---")}
	for _, letters := range rightLetters {
		rights = append(rights, right(1, 2, letters), right(1, 0, letters), right(2, 1, letters))
	}
	for _, labels := range [][2]impl.Label{seesBoth, seesNeither} {
		for _, r := range rights {
			for slots := range 16 {
				for n := range 100 {
					process := run(77, right(1, 2, "rw-"), right(2, 1, "r-k"), right(3, 0, "r--"), right(4, 0, "rw-"))
					process.Slots[slots/4] = r
					table := []impl.Thing{page(5, 2), node(1, right(1, 1, "rw-")), process, pipe(3, 9), gate(2, 1)}
					for i := range table {
						table[i].Label = labels[1]
					}
					table[2].Label = labels[0]
					check(playOf(table, impl.Call{Kind: impl.CallCopy, Run: 3, A: slots / 4, B: slots % 4, N: n}))
				}
			}
		}
	}
}

func TestP45Copy(t *testing.T) {
	eachCopy(func(p play) {
		c := p.call
		r := p.used()
		want := p.quietly(0, func(table []impl.Thing) { table[2].Slots[c.B] = lessened(r, c.N) })
		if p.answer != 0 || !sameTable(p.after, want) {
			t.Errorf("%vis %d with\n%s", p, p.answer, impl.TableText(p.after))
		}
		if !impl.RightIn(p.after[2].Slots[c.B], r) || p.after[2].Slots[c.B] != impl.RightLess(r, c.N&1 != 0, c.N&2 != 0, c.N&4 != 0) {
			t.Errorf("%vthe copy is %v", p, p.after[2].Slots[c.B])
		}
	})
}

func TestP45Examples(t *testing.T) {
	cases := []struct {
		what     string
		from, to string
		n        int
	}{
		{"no flags", "rw-", "--k", 0},
		{"read", "rw-", "r-k", 1},
		{"write", "rw-", "--k", 2},
		{"read and write", "rw-", "r-k", 3},
		{"strong", "rw-", "---", 4},
		{"read and strong", "rw-", "r--", 5},
		{"write and strong", "rw-", "-w-", 6},
		{"all", "rw-", "rw-", 7},
		{"none, by 8", "rw-", "--k", 8},
		{"read, by 9", "rw-", "r-k", 9},
		{"all, by 15", "rw-", "rw-", 15},
		{"none, by 16", "rw-", "--k", 16},
		{"read, by 97", "rw-", "r-k", 97},
		{"read and write, by 99", "rw-", "r-k", 99},
		{"all, by 95", "rw-", "rw-", 95},
		{"all of a weak one", "r-k", "r-k", 7},
		{"strong of a weak one", "r-k", "--k", 4},
		{"write of a readable one", "r--", "---", 6},
		{"all of one that permits nothing", "---", "---", 7},
		{"none of one that permits nothing", "---", "--k", 0},
	}
	for _, c := range cases {
		for b := range 4 {
			table := []impl.Thing{run(5, noRight, right(2, 0, c.from)), page(0, 1)}
			want := copyTable(table)
			want[0].Num, want[0].Slots[b] = 0, right(2, 0, c.to)
			if got, answer := impl.CallDo(table, impl.Call{Kind: impl.CallCopy, Run: 1, A: 1, B: b, N: c.n}); answer != 0 || !sameTable(got, want) {
				t.Errorf("%s: %d with %v, want %v", c.what, answer, got, want)
			}
		}
	}
	for n := range 100 {
		table := []impl.Thing{run(5, noRight, right(1, 0, "rw-"))}
		if got, answer := impl.CallDo(table, impl.Call{Kind: impl.CallCopy, Run: 1, A: 0, B: 1, N: n}); answer != 0 || !sameTable(got, []impl.Thing{run(0)}) {
			t.Errorf("copying the null capability by %d is %d with %v", n, answer, got)
		}
	}
}

// eachNodeCall goes through the calls of one kind, with each index and number, by a process with a right to a node; the rights of both are null, weak, live and gone.
func eachNodeCall(kind int, labels [2]impl.Label, used impl.Right, check func(p play)) {
	for slots := range 16 {
		for n := range 100 {
			process := run(33, right(1, 2, "rw-"), noRight, right(1, 1, "r-k"), right(3, 0, "-w-"))
			process.Slots[slots/4] = used
			table := []impl.Thing{page(5, 2), node(3, right(1, 2, "rw-"), right(1, 1, "-w-"), noRight, right(2, 3, "r-k")), process, run(1, right(2, 3, "rw-"))}
			if n%2 == 1 {
				table[1].Slots = []impl.Right{right(3, 0, "---"), right(2, 0, "rw-"), right(1, 0, "r--"), right(1, 2, "--k")}
			}
			for i := range table {
				table[i].Label = labels[1]
			}
			table[2].Label = labels[0]
			check(playOf(table, impl.Call{Kind: kind, Run: 3, A: slots / 4, B: slots % 4, N: n}))
		}
	}
}

func TestP46Fetch(t *testing.T) {
	for _, labels := range [][2]impl.Label{seesBoth, seesOnly} {
		for _, letters := range []string{"r--", "rw-", "r-k"} {
			eachNodeCall(impl.CallFetch, labels, right(2, 3, letters), func(p play) {
				want := p.before[1].Slots[p.call.N%4]
				if letters == "r-k" && want != noRight {
					want.Write, want.Weak = false, true
				}
				after := p.quietly(0, func(table []impl.Thing) { table[2].Slots[p.call.B] = want })
				if p.check != 0 || p.answer != 0 || !sameTable(p.after, after) {
					t.Errorf("%vis %d with\n%s", p, p.answer, impl.TableText(p.after))
				}
			})
		}
	}
}

func TestP46Plays(t *testing.T) {
	fetches := map[bool]int{}
	eachPlay(func(p play) {
		if !p.takesPlace(impl.CallFetch) {
			return
		}
		got, from := p.after[p.call.Run-1].Slots[p.call.B], p.before[p.object-1].Slots[p.call.N%4]
		fetches[p.used().Weak]++
		if !impl.RightIn(got, from) || p.used().Weak && got != impl.RightLess(from, true, false, false) || !p.used().Weak && got != from {
			t.Errorf("%vfetches %v", p, got)
		}
	})
	if fetches[true] < 100 || fetches[false] < 100 {
		t.Errorf("the fetches are %v", fetches)
	}
}

func TestP46Examples(t *testing.T) {
	cases := []struct {
		what, used, held, want string
	}{
		{"strong by strong", "2.3r--", "1.2rw-", "1.2rw-"},
		{"strong by readable and writable", "2.3rw-", "1.2rw-", "1.2rw-"},
		{"strong by weak", "2.3r-k", "1.2rw-", "1.2r-k"},
		{"writable by weak", "2.3r-k", "1.2-w-", "1.2--k"},
		{"readable by weak", "2.3r-k", "1.2r--", "1.2r-k"},
		{"one that permits nothing by weak", "2.3r-k", "1.2---", "1.2--k"},
		{"weak by strong", "2.3r--", "1.2r-k", "1.2r-k"},
		{"weak by weak", "2.3r-k", "1.2r-k", "1.2r-k"},
		{"weak and unreadable by weak", "2.3r-k", "1.2--k", "1.2--k"},
		{"null by strong", "2.3r--", "-", "-"},
		{"null by weak", "2.3r-k", "-", "-"},
		{"gone by strong", "2.3r--", "1.0rw-", "1.0rw-"},
		{"gone by weak", "2.3r-k", "1.0rw-", "1.0r-k"},
		{"the node itself by weak", "2.3r-k", "2.3rw-", "2.3r-k"},
		{"a process by strong", "2.3r--", "3.0rw-", "3.0rw-"},
	}
	for _, c := range cases {
		used, _ := impl.RightRead(c.used)
		held, _ := impl.RightRead(c.held)
		want, ok := impl.RightRead(c.want)
		if !ok {
			t.Fatalf("%s: %q is no right", c.what, c.want)
		}
		for index := range 4 {
			for _, n := range []int{index, index + 4, index + 92, index + 96} {
				table := []impl.Thing{page(5, 2), node(3), run(0, used)}
				table[1].Slots[index] = held
				for b := range 4 {
					got, answer := impl.CallDo(table, impl.Call{Kind: impl.CallFetch, Run: 3, A: 0, B: b, N: n})
					if answer != 0 || !sameTable(got, with(table, 2, func(x *impl.Thing) { x.Slots[b] = want })) {
						t.Errorf("%s: fetching at %d is %d with %v, want %v", c.what, n, answer, got[2], want)
					}
				}
			}
		}
	}
}

func TestP47Store(t *testing.T) {
	for _, labels := range [][2]impl.Label{seesBoth, touchesOnly} {
		for _, letters := range []string{"-w-", "rw-"} {
			for was := range 4 {
				eachNodeCall(impl.CallStore, labels, right(2, was, letters), func(p play) {
					answer := 0
					if was < 3 && labels == seesBoth {
						answer = -3
					}
					want := p.quietly(answer, func(table []impl.Thing) {
						if was == 3 {
							table[1].Slots[p.call.N%4] = table[2].Slots[p.call.B]
						}
					})
					if p.answer != answer || !sameTable(p.after, want) {
						t.Errorf("%vis %d with\n%s", p, p.answer, impl.TableText(p.after))
					}
				})
			}
		}
	}
}

func TestP47Plays(t *testing.T) {
	stores := map[bool]int{}
	eachPlay(func(p play) {
		if !p.takesPlace(impl.CallStore) {
			return
		}
		stores[p.live()]++
		kept := p.before[p.call.Run-1].Slots
		if !slices.Equal(p.after[p.call.Run-1].Slots, kept) {
			t.Errorf("%vthe process does not keep its rights", p)
		}
		want := slices.Clone(p.before[p.object-1].Slots)
		if p.live() {
			want[p.call.N%4] = kept[p.call.B]
		}
		if !slices.Equal(p.after[p.object-1].Slots, want) || p.answer != 0 {
			t.Errorf("%vthe node has %v", p, p.after[p.object-1].Slots)
		}
	})
	if stores[true] < 50 || stores[false] < 50 {
		t.Errorf("the stores are %v", stores)
	}
}

// TestP47AllRights has each right that there can be stored into each place, as it is.
func TestP47AllRights(t *testing.T) {
	for _, r := range allRights() {
		if r.Thing > 3 || r.Thing > 1 && r.Vers > 0 {
			continue
		}
		for n := range 8 {
			table := []impl.Thing{page(5, 5), node(0, right(1, 1, "r--"), right(1, 2, "r--"), right(1, 3, "r--"), right(1, 4, "r--")), run(0, right(2, 0, "-w-"), right(1, 0, "r--"), noRight, r)}
			got, answer := impl.CallDo(table, impl.Call{Kind: impl.CallStore, Run: 3, A: 0, B: 3, N: n})
			if answer != 0 || !sameTable(got, with(table, 1, func(x *impl.Thing) { x.Slots[n%4] = r })) {
				t.Errorf("storing %v at %d is %d with %v", r, n, answer, got)
			}
		}
	}
}

// queues has queues of each length.
var queues = [][]int{nil, {}, {0}, {99}, {7, 7}, {1, 2}, {1, 2, 3}, {99, 0, 99}}

// pipeTable is a table with a pipe, and a process with a right to it.
func pipeTable(labels [2]impl.Label, queue []int, vers, was int) []impl.Thing {
	table := []impl.Thing{pipe(vers, queue...), run(55, noRight, right(1, was, "rw-")), pipe(0, 5)}
	table[0].Label, table[1].Label, table[2].Label = labels[1], labels[0], labels[1]
	return table
}

func TestP48Send(t *testing.T) {
	for _, queue := range queues {
		for _, labels := range [][2]impl.Label{seesBoth, touchesOnly} {
			for n := range 100 {
				for was := range 2 {
					table := pipeTable(labels, queue, 1, was)
					want, answer := copyTable(table), 0
					if was == 1 && len(queue) < 3 {
						want[0].Queue = append(slices.Clone(queue), n)
					}
					if labels == seesBoth && len(queue) == 3 {
						answer = -4
					}
					if labels == seesBoth && was == 0 {
						answer = -3
					}
					want[1].Num = answer
					got, is := impl.CallDo(table, impl.Call{Kind: impl.CallSend, Run: 2, A: 1, N: n})
					if is != answer || !sameTable(got, want) {
						t.Errorf("sending %d to %v by labels %v at version %d of 1 is %d with %v", n, queue, labels, was, is, got)
					}
				}
			}
		}
	}
}

func TestP48Plays(t *testing.T) {
	sends := map[[3]bool]int{}
	eachPlay(func(p play) {
		if !p.takesPlace(impl.CallSend) {
			return
		}
		was, is := p.before[p.object-1].Queue, p.after[p.object-1].Queue
		room := len(was) < 3
		sends[[3]bool{p.live(), room, p.sees()}]++
		want, answer := was, 0
		if p.live() && room {
			want = append(slices.Clone(was), p.call.N)
		}
		if !room && p.sees() {
			answer = -4
		}
		if !slices.Equal(is, want) || p.answer != answer {
			t.Errorf("%vis %d, and the queue is %v", p, p.answer, is)
		}
	})
	for _, live := range []bool{false, true} {
		for _, room := range []bool{false, true} {
			// A process that observes the pipe is refused by a right that is not live.
			if sends[[3]bool{live, room, false}] < 20 || live && sends[[3]bool{live, room, true}] < 20 {
				t.Errorf("the sends are %v", sends)
			}
		}
	}
}

func TestP49Take(t *testing.T) {
	for _, queue := range queues {
		for vers := range 6 {
			table := pipeTable(seesBoth, queue, vers, vers)
			want, answer := copyTable(table), -4
			if len(queue) > 0 {
				answer = queue[0]
				want[0].Queue = queue[1:]
			}
			want[1].Num = answer
			got, is := impl.CallDo(table, impl.Call{Kind: impl.CallTake, Run: 2, A: 1, B: 3, N: 98})
			if is != answer || !sameTable(got, want) {
				t.Errorf("taking from %v is %d with %v", queue, is, got)
			}
		}
	}
}

func TestP49EachNumber(t *testing.T) {
	for first := range 100 {
		for size := range 3 {
			queue := append([]int{first}, []int{99 - first, 50}[:size]...)
			got, answer := impl.CallDo(pipeTable(seesBoth, queue, 0, 0), impl.Call{Kind: impl.CallTake, Run: 2, A: 1})
			if answer != first || !slices.Equal(got[0].Queue, queue[1:]) || got[1].Num != first {
				t.Errorf("taking from %v is %d with %v", queue, answer, got)
			}
		}
	}
}

func TestP49Plays(t *testing.T) {
	takes := map[int]int{}
	eachPlay(func(p play) {
		if !p.takesPlace(impl.CallTake) {
			return
		}
		was, is := p.before[p.object-1].Queue, p.after[p.object-1].Queue
		takes[len(was)]++
		if len(was) == 0 && (p.answer != -4 || len(is) != 0) || len(was) > 0 && (p.answer != was[0] || !slices.Equal(is, was[1:])) {
			t.Errorf("%vis %d, and the queue is %v", p, p.answer, is)
		}
	})
	for size := range 4 {
		if takes[size] < 5 {
			t.Errorf("the takes are %v", takes)
		}
	}
}

// TestP49InTurn has all sequences of ten calls that send or take, so that the queue goes round.
func TestP49InTurn(t *testing.T) {
	for sequence := range 1 << 10 {
		table := pipeTable(seesBoth, nil, 0, 0)
		var queue []int
		for step := range 10 {
			c := impl.Call{Kind: impl.CallTake, Run: 2, A: 1, N: 50}
			want := -4
			if sequence>>step&1 == 1 {
				c.Kind, c.N = impl.CallSend, 90+step
				if len(queue) < 3 {
					queue, want = append(queue, c.N), 0
				}
			} else if len(queue) > 0 {
				want, queue = queue[0], queue[1:]
			}
			var answer int
			table, answer = impl.CallDo(table, c)
			if answer != want || !slices.Equal(table[0].Queue, queue) {
				t.Fatalf("step %d of sequence %b is %d with %v, want %d with %v", step, sequence, answer, table[0].Queue, want, queue)
			}
		}
	}
}

// renewable has objects that can be renewed, with something in them.
func renewable(vers int) []impl.Thing {
	return []impl.Thing{page(42, vers), page(0, vers), node(vers, right(1, vers, "rw-"), right(2, 0, "r-k"), noRight, right(1, 0, "r--")), node(vers), pipe(vers, 1, 2, 3), pipe(vers, 9), pipe(vers)}
}

func TestP50Renew(t *testing.T) {
	for _, labels := range [][2]impl.Label{seesBoth, touchesOnly} {
		for vers := range 6 {
			for _, object := range renewable(vers) {
				object.Label = labels[1]
				process := run(8, right(1, vers, "-w-"), right(1, 0, "r--"), right(1, vers, "rw-"), right(1, vers, "r-k"))
				process.Label = labels[0]
				other := node(0, right(1, vers, "rw-"))
				table := []impl.Thing{object, process, other}
				want, answer := copyTable(table), 0
				if vers < 5 {
					want[0] = shapes[object.Kind-1].plain()
					want[0].Label, want[0].Vers = labels[1], vers+1
				} else if labels == seesBoth {
					answer = -4
				}
				want[1].Num = answer
				got, is := impl.CallDo(table, impl.Call{Kind: impl.CallRenew, Run: 2, A: 2, B: 1, N: 3})
				if is != answer || !sameTable(got, want) {
					t.Errorf("renewing %v by labels %v is %d with %v, want %d with %v", object, labels, is, got, answer, want)
				}
				if vers < 5 {
					for _, r := range append(slices.Clone(got[1].Slots), got[2].Slots...) {
						if impl.TableLive(got, r) {
							t.Errorf("%v is live after renewing %v", r, object)
						}
					}
				}
			}
		}
	}
}

func TestP50Plays(t *testing.T) {
	renewals := map[bool]int{}
	eachPlay(func(p play) {
		if !p.takesPlace(impl.CallRenew) {
			return
		}
		was, is := p.before[p.object-1], p.after[p.object-1]
		takesEffect := p.live() && was.Vers < 5
		renewals[takesEffect]++
		if !takesEffect {
			if !sameThing(was, is) {
				t.Errorf("%vthe object is %v", p, is)
			}
			return
		}
		fresh, _ := impl.ThingNew(was.Kind, was.Label, was.To)
		fresh.Vers = was.Vers + 1
		if !sameThing(is, fresh) || p.answer != 0 {
			t.Errorf("%vis %d, and the object is %v", p, p.answer, is)
		}
		for _, holder := range p.after {
			for _, r := range holder.Slots {
				if r.Thing == p.object && impl.TableLive(p.after, r) {
					t.Errorf("%v%v is still live", p, r)
				}
			}
		}
	})
	if renewals[true] < 100 || renewals[false] < 100 {
		t.Errorf("the renewals are %v", renewals)
	}
}

// TestP50UpToTheLast has an object renewed again and again, with a new right each time.
func TestP50UpToTheLast(t *testing.T) {
	for _, labels := range [][2]impl.Label{seesBoth, touchesOnly} {
		for _, object := range renewable(0) {
			object.Label = labels[1]
			process := run(0)
			process.Label = labels[0]
			table := []impl.Thing{object, process, run(0)}
			for vers := range 8 {
				table[1].Slots[0] = right(1, min(vers, 5), "-w-")
				want := 0
				if vers >= 5 && labels == seesBoth {
					want = -4
				}
				var answer int
				table, answer = impl.CallDo(table, impl.Call{Kind: impl.CallRenew, Run: 2})
				if answer != want || table[0].Vers != min(vers+1, 5) {
					t.Errorf("renewing %v for the %dth time is %d with version %d", object, vers+1, answer, table[0].Vers)
				}
			}
		}
	}
}

// gateTable is a table with a gate, its target and another page; the target has a label of its own.
func gateTable(labels [2]impl.Label, target impl.Label, count, num int) []impl.Thing {
	table := []impl.Thing{page(44, 0), gate(count, 4), run(20, noRight, noRight, noRight, right(2, 0, "-w-")), page(num, 3), gate(7, 1)}
	table[0].Label, table[1].Label, table[2].Label, table[3].Label = target, labels[1], labels[0], target
	return table
}

func TestP51Gate(t *testing.T) {
	for _, labels := range [][2]impl.Label{seesBoth, touchesOnly} {
		for _, target := range allLabels() {
			for _, count := range []int{0, 1, 50, 97, 98, 99} {
				for _, num := range []int{0, 1, 2, 99} {
					for _, n := range []int{0, 1, 2, 3, 50, 98, 99} {
						table := gateTable(labels, target, count, num)
						got, answer := impl.CallDo(table, impl.Call{Kind: impl.CallGate, Run: 3, A: 3, B: 1, N: n})
						want := copyTable(table)
						want[1].Num, want[2].Num, want[3].Num = min(count+1, 99), 0, n%2
						if answer != 0 || !sameTable(got, want) {
							t.Errorf("%d through a gate with %d to a page with %d and label %v is %d with %v", n, count, num, target, answer, got)
						}
					}
				}
			}
		}
	}
}

func TestP51EachNumberAndCount(t *testing.T) {
	for n := range 100 {
		for count := range 100 {
			got, answer := impl.CallDo(gateTable(seesBoth, label(0, 3), count, 50), impl.Call{Kind: impl.CallGate, Run: 3, A: 3, N: n})
			if answer != 0 || got[3].Num != n%2 || got[1].Num != min(count+1, 99) || got[0].Num != 44 || got[4].Num != 7 {
				t.Errorf("%d through a gate with %d is %d with %v", n, count, answer, got)
			}
		}
	}
}

func TestP51Plays(t *testing.T) {
	uses := 0
	eachPlay(func(p play) {
		if !p.takesPlace(impl.CallGate) {
			return
		}
		uses++
		want := p.quietly(0, func(table []impl.Thing) {
			table[p.object-1].Num = min(table[p.object-1].Num+1, 99)
			table[table[p.object-1].To-1].Num = p.call.N % 2
		})
		if p.answer != 0 || !sameTable(p.after, want) {
			t.Errorf("%vis %d with\n%s", p, p.answer, impl.TableText(p.after))
		}
	})
	if uses < 50 {
		t.Errorf("only %d gates are used", uses)
	}
}

// TestP51RefusedGate holds that a gate that is refused does not change its target, and is not counted.
func TestP51RefusedGate(t *testing.T) {
	for _, labels := range [][2]impl.Label{seesOnly, seesNeither} {
		table := gateTable(labels, labels[0], 5, 50)
		if got, answer := impl.CallDo(table, impl.Call{Kind: impl.CallGate, Run: 3, A: 3, N: 1}); answer != -2 || got[3].Num != 50 || got[1].Num != 5 {
			t.Errorf("a gate by labels %v is %d with %v", labels, answer, got)
		}
	}
	for _, letters := range []string{"---", "r--", "--k", "r-k"} {
		table := gateTable(seesBoth, seesBoth[0], 5, 50)
		table[2].Slots[3] = right(2, 0, letters)
		if got, answer := impl.CallDo(table, impl.Call{Kind: impl.CallGate, Run: 3, A: 3, N: 1}); answer != -1 || got[3].Num != 50 || got[1].Num != 5 {
			t.Errorf("a gate by %s is %d with %v", letters, answer, got)
		}
	}
}

// eachOwn goes through objects and processes with the same label, with a right in each slot.
func eachOwn(object impl.Thing, check func(table []impl.Thing, slot int)) {
	for _, l := range allLabels() {
		for slot := range 4 {
			process := run(-1)
			process.Slots[slot] = right(2, object.Vers, "rw-")
			table := []impl.Thing{process, copyThing(object), page(3, 0)}
			table[0].Label, table[1].Label = l, l
			check(table, slot)
		}
	}
}

func TestP52TakesWhatItSends(t *testing.T) {
	for vers := range 6 {
		eachOwn(pipe(vers), func(table []impl.Thing, slot int) {
			for n := range 100 {
				sent, answer := impl.CallDo(table, impl.Call{Kind: impl.CallSend, Run: 1, A: slot, N: n})
				taken, second := impl.CallDo(sent, impl.Call{Kind: impl.CallTake, Run: 1, A: slot, N: 5})
				if answer != 0 || second != n || !sameTable(taken, with(table, 0, func(x *impl.Thing) { x.Num = n })) {
					t.Errorf("sending %d is %d, and taking it %d with %v", n, answer, second, taken)
				}
			}
		})
	}
}

// TestP52NotItsOwn holds that a process with another label does not take what it sends.
func TestP52NotItsOwn(t *testing.T) {
	eachPair(func(process, object impl.Label) {
		if process == object {
			return
		}
		table := scene{4, process, object, "rw-", false}.table()
		sent, _ := impl.CallDo(table, sceneCall(impl.CallSend))
		if taken, answer := impl.CallDo(sent, sceneCall(impl.CallTake)); answer != -2 || !sameThing(taken[sceneObject-1], sent[sceneObject-1]) {
			t.Errorf("a process with %v takes from a pipe with %v: %d with %v", process, object, answer, taken)
		}
	})
}

func TestP53ReadsWhatItWrites(t *testing.T) {
	for vers := range 6 {
		eachOwn(page(77, vers), func(table []impl.Thing, slot int) {
			for n := range 100 {
				written, answer := impl.CallDo(table, impl.Call{Kind: impl.CallWrite, Run: 1, A: slot, N: n})
				read, second := impl.CallDo(written, impl.Call{Kind: impl.CallRead, Run: 1, A: slot, N: 5})
				want := with(table, 1, func(x *impl.Thing) { x.Num = n })
				want[0].Num = n
				if answer != 0 || second != n || !sameTable(read, want) {
					t.Errorf("writing %d is %d, and reading it %d with %v", n, answer, second, read)
				}
			}
		})
	}
}

func TestP54TakesInOrder(t *testing.T) {
	numbers := []int{0, 1, 2, 9, 10, 42, 98, 99}
	eachOwn(pipe(2), func(table []impl.Thing, slot int) {
		for _, first := range numbers {
			for _, second := range numbers {
				at := table
				var got []int
				for _, c := range [][2]int{{impl.CallSend, first}, {impl.CallSend, second}, {impl.CallTake, 0}, {impl.CallTake, 0}, {impl.CallTake, 0}} {
					var answer int
					at, answer = impl.CallDo(at, impl.Call{Kind: c[0], Run: 1, A: slot, N: c[1]})
					got = append(got, answer)
				}
				if !slices.Equal(got, []int{0, 0, first, second, -4}) || len(at[1].Queue) != 0 {
					t.Errorf("sending %d and %d and taking three numbers is %v, with %v", first, second, got, at)
				}
			}
		}
	})
}

func TestP55FetchesWhatItStores(t *testing.T) {
	rights := []impl.Right{noRight, right(1, 0, "rw-"), right(2, 1, "rw-"), right(2, 0, "rw-"), right(3, 0, "rw-"), right(3, 0, "r-k"), right(3, 0, "---"), right(3, 0, "-w-")}
	eachOwn(node(1, right(1, 0, "r--"), right(2, 1, "r--"), right(3, 0, "r--"), right(3, 0, "--k")), func(table []impl.Thing, slot int) {
		for _, r := range rights {
			from, to := (slot+1)%4, (slot+2)%4
			table := with(table, 0, func(x *impl.Thing) { x.Slots[from] = r })
			for n := range 10 {
				stored, answer := impl.CallDo(table, impl.Call{Kind: impl.CallStore, Run: 1, A: slot, B: from, N: n})
				fetched, second := impl.CallDo(stored, impl.Call{Kind: impl.CallFetch, Run: 1, A: slot, B: to, N: n % 4})
				want := with(table, 1, func(x *impl.Thing) { x.Slots[n%4] = r })
				want[0].Slots[to], want[0].Num = r, 0
				if answer != 0 || second != 0 || !sameTable(fetched, want) {
					t.Errorf("storing %v at %d and fetching it is %d and %d with %v", r, n, answer, second, fetched)
				}
			}
		}
	})
}

// TestP55StoresTheRightUsed has a process that stores and fetches in the slot of the right itself.
func TestP55StoresTheRightUsed(t *testing.T) {
	eachOwn(node(1, right(3, 0, "r--")), func(table []impl.Thing, slot int) {
		stored, _ := impl.CallDo(table, impl.Call{Kind: impl.CallStore, Run: 1, A: slot, B: slot, N: 6})
		lost, answer := impl.CallDo(stored, impl.Call{Kind: impl.CallFetch, Run: 1, A: slot, B: slot, N: 0})
		if stored[1].Slots[2] != right(2, 1, "rw-") || answer != 0 || lost[0].Slots[slot] != right(3, 0, "r--") {
			t.Errorf("storing the right used makes %v, and fetching another one into its slot %v", stored, lost)
		}
		if _, answer := impl.CallDo(lost, impl.Call{Kind: impl.CallFetch, Run: 1, A: slot, B: slot, N: 2}); answer != -1 {
			t.Errorf("fetching by the right to a page is %d", answer)
		}
	})
}

func TestP56UnseenObject(t *testing.T) {
	answers := map[int]int{}
	for _, labels := range [][2]impl.Label{touchesOnly, seesNeither, {label(0, 0), label(3, 0)}, {label(0, 3), label(1, 2)}} {
		for _, shape := range shapes {
			for _, letters := range append([]string{""}, rightLetters...) {
				for was := 0; was <= min(3, shape.vers[1]); was++ {
					plain := scene{shape.kind, labels[0], labels[1], letters, false}.table()
					if letters != "" {
						plain[sceneProcess-1].Slots[sceneSlot].Vers = was
					}
					for _, d := range demands {
						first := -9
						for _, object := range contents(plain[sceneObject-1]) {
							table := with(plain, sceneObject-1, func(x *impl.Thing) { *x = copyThing(object) })
							after, answer := impl.CallDo(table, sceneCall(d.kind))
							answers[answer]++
							if first == -9 {
								first = answer
							}
							if answer != first || answer != 0 && answer != -1 && answer != -2 {
								t.Errorf("%s of the unseen %v is %d, and %d of another", d.name, object, answer, first)
							}
							if d.name != "CallCopy" && !sameThing(after[sceneProcess-1], with(table, sceneProcess-1, func(x *impl.Thing) { x.Num = first })[sceneProcess-1]) {
								t.Errorf("%s of the unseen %v makes the process %v", d.name, object, after[sceneProcess-1])
							}
						}
					}
				}
			}
		}
	}
	if answers[0] < 500 || answers[-1] < 500 || answers[-2] < 500 {
		t.Errorf("the answers are %v", answers)
	}
}

func TestP56Plays(t *testing.T) {
	unseen := 0
	eachPlay(func(p play) {
		if p.object == 0 || p.sees() {
			return
		}
		unseen++
		if p.answer != -1 && p.answer != -2 && p.answer != 0 {
			t.Errorf("%vis %d, but the process does not see the object", p, p.answer)
		}
	})
	if unseen < 10000 {
		t.Errorf("only %d calls", unseen)
	}
}

func TestP57RenewTwice(t *testing.T) {
	for _, letters := range []string{"-w-", "rw-"} {
		for vers := range 6 {
			for _, object := range renewable(vers) {
				for _, l := range allLabels() {
					object.Label = l
					process := run(50, noRight, right(1, vers, letters))
					process.Label = l
					c := impl.Call{Kind: impl.CallRenew, Run: 2, A: 1}
					once, first := impl.CallDo([]impl.Thing{object, process}, c)
					twice, second := impl.CallDo(once, c)
					want := [2]int{0, -3}
					if vers == 5 {
						want = [2]int{-4, -4}
					}
					if first != want[0] || second != want[1] || !sameThing(once[0], twice[0]) {
						t.Errorf("renewing %v twice is %d and %d with %v", object, first, second, twice)
					}
				}
			}
		}
	}
}

// TestP57Unseen holds that a process that does not see the object is told nothing of it.
func TestP57Unseen(t *testing.T) {
	for vers := range 6 {
		for _, object := range renewable(vers) {
			object.Label = touchesOnly[1]
			process := run(50, right(1, vers, "rw-"))
			process.Label = touchesOnly[0]
			c := impl.Call{Kind: impl.CallRenew, Run: 2}
			once, first := impl.CallDo([]impl.Thing{object, process}, c)
			twice, second := impl.CallDo(once, c)
			if first != 0 || second != 0 || !sameTable(once, twice) || once[0].Vers != min(vers+1, 5) {
				t.Errorf("renewing the unseen %v twice is %d and %d with %v", object, first, second, twice)
			}
		}
	}
}

// companies has tables with two processes at least.
func companies() [][]impl.Thing {
	tables := [][]impl.Thing{wide(), filled([]int{3, 3}), filled([]int{1, 3, 2, 3, 4, 5, 3, 1}), filled([]int{3, 2, 3, 4, 2, 3})}
	tables = append(tables, []impl.Thing{
		node(1, right(2, 0, "rw-"), right(3, 0, "rw-"), right(1, 1, "r-k"), noRight),
		run(9, right(1, 1, "rw-"), right(3, 0, "rw-"), right(4, 0, "r--"), right(5, 0, "-w-")),
		run(8, right(1, 1, "r-k"), right(2, 0, "rw-"), right(4, 0, "rw-"), right(5, 0, "rw-")),
		page(6, 0), gate(98, 4), pipe(0, 1),
	})
	for _, table := range slices.Clone(tables) {
		tables = append(tables, alike(table))
	}
	return tables
}

func TestP58OrderOfACopy(t *testing.T) {
	for _, table := range companies() {
		for copier := range table {
			for other := range table {
				if copier == other || !isProcess(table, copier+1) || !isProcess(table, other+1) {
					continue
				}
				for slots := range 16 {
					copying := impl.Call{Kind: impl.CallCopy, Run: copier + 1, A: slots / 4, B: slots % 4, N: slots % 9}
					eachCallOf(table, other+1, func(p play) {
						ahead, first := impl.CallDo(table, copying)
						ahead, second := impl.CallDo(ahead, p.call)
						behind, last := impl.CallDo(p.after, copying)
						if first != last || second != p.answer || !sameTable(ahead, behind) {
							t.Errorf("%vand %+v depend on the order: %d and %d, or %d and %d", p, copying, first, second, last, p.answer)
						}
					})
				}
			}
		}
	}
}

func TestP59CopyAllAndNothing(t *testing.T) {
	eachCopy(func(p play) {
		r, got := p.used(), p.after[2].Slots[p.call.B]
		if p.call.N%8 == 7 && got != r {
			t.Errorf("%vwith all flags the copy is %v", p, got)
		}
		if p.call.N%8 == 0 && (got.Read || got.Write || got.Thing != r.Thing || got.Vers != r.Vers || got.Weak != (r != noRight)) {
			t.Errorf("%vwithout flags the copy is %v", p, got)
		}
	})
}

// TestP59NothingIsPermitted holds that a copy without flags is refused for each call that needs a right.
func TestP59NothingIsPermitted(t *testing.T) {
	for _, d := range demands {
		for _, kind := range d.objects {
			table := scene{kind, seesBoth[0], seesBoth[1], "rw-", false}.table()
			for _, n := range []int{0, 8, 96} {
				copied, _ := impl.CallDo(table, impl.Call{Kind: impl.CallCopy, Run: sceneProcess, A: sceneSlot, B: 0, N: n})
				if got, answer := impl.CallDo(copied, impl.Call{Kind: d.kind, Run: sceneProcess, A: 0, B: 1}); answer != -1 || !sameTable(got[:2], table[:2]) {
					t.Errorf("%s by a copy without flags is %d with %v", d.name, answer, got)
				}
			}
		}
	}
}

func TestP60GateTwice(t *testing.T) {
	for _, labels := range [][2]impl.Label{seesBoth, touchesOnly} {
		for _, count := range []int{0, 1, 50, 96, 97, 98, 99} {
			for _, first := range []int{0, 1, 2, 51, 98, 99} {
				for _, second := range []int{0, 1, 2, 51, 98, 99} {
					table := gateTable(labels, label(1, 2), count, 66)
					once, one := impl.CallDo(table, impl.Call{Kind: impl.CallGate, Run: 3, A: 3, N: first})
					twice, two := impl.CallDo(once, impl.Call{Kind: impl.CallGate, Run: 3, A: 3, N: second})
					want := copyTable(table)
					want[1].Num, want[2].Num, want[3].Num = min(count+2, 99), 0, second%2
					if one != 0 || two != 0 || once[3].Num != first%2 || !sameTable(twice, want) {
						t.Errorf("%d and %d through a gate with %d is %d and %d with %v", first, second, count, one, two, twice)
					}
				}
			}
		}
	}
}

func TestP61ReadTwice(t *testing.T) {
	eachPlay(func(p play) {
		if p.call.Kind != impl.CallRead {
			return
		}
		twice, answer := impl.CallDo(p.after, p.call)
		if answer != p.answer || !sameTable(twice, p.after) {
			t.Errorf("%vis %d and then %d with\n%s", p, p.answer, answer, impl.TableText(twice))
		}
	})
}

func TestP62WriteTwice(t *testing.T) {
	writes := 0
	eachPlay(func(p play) {
		if p.call.Kind != impl.CallWrite {
			return
		}
		for _, n := range []int{0, 1, 98} {
			c := p.call
			c.N = n
			twice, answer := impl.CallDo(p.after, c)
			alone, want := impl.CallDo(p.before, c)
			if answer != want || !sameTable(twice, alone) {
				t.Errorf("%vand then %d is %d with\n%s", p, n, answer, impl.TableText(twice))
			}
			if p.check == 0 && p.live() {
				writes++
				if twice[p.object-1].Num != n {
					t.Errorf("%vand then %d leaves %d", p, n, twice[p.object-1].Num)
				}
			}
		}
	})
	if writes < 100 {
		t.Errorf("only %d writes", writes)
	}
}

func TestP63OtherProcesses(t *testing.T) {
	others := 0
	check := func(p play) {
		for i, was := range p.before {
			if was.Kind != 3 || i+1 == p.call.Run {
				continue
			}
			others++
			if !sameThing(p.after[i], was) {
				t.Errorf("%vchanges process %d", p, i+1)
			}
		}
	}
	eachPlay(check)
	for _, table := range companies() {
		for number := range table {
			if isProcess(table, number+1) {
				eachCallOf(table, number+1, check)
			}
		}
	}
	if others < 10000 {
		t.Errorf("only %d other processes", others)
	}
}

func TestP64KindsThatChange(t *testing.T) {
	// By the kind of the object, which calls may change it; a process is changed by all of its own.
	changes := [6][]int{
		impl.KindPage: {impl.CallWrite, impl.CallRenew, impl.CallGate},
		impl.KindNode: {impl.CallStore, impl.CallRenew},
		impl.KindPipe: {impl.CallSend, impl.CallTake, impl.CallRenew},
		impl.KindGate: {impl.CallGate},
	}
	seen := map[[2]int]int{}
	eachPlay(func(p play) {
		for _, number := range p.changed() {
			kind := p.before[number-1].Kind
			if number == p.call.Run {
				continue
			}
			seen[[2]int{kind, p.call.Kind}]++
			if !slices.Contains(changes[kind], p.call.Kind) {
				t.Errorf("%vchanges object %d, a %s", p, number, shapes[kind-1].name)
			}
		}
	})
	for kind, calls := range changes {
		for _, call := range calls {
			if seen[[2]int{kind, call}] < 10 {
				t.Errorf("%s changes a %s only %d times", demands[call-1].name, shapes[kind-1].name, seen[[2]int{kind, call}])
			}
		}
	}
}

func TestP65Answers(t *testing.T) {
	full, positive := map[int]int{}, map[int]int{}
	eachPlay(func(p play) {
		if p.answer == -4 {
			full[p.call.Kind]++
		}
		if p.answer > 0 {
			positive[p.call.Kind]++
		}
		if p.answer < -4 || p.answer > 99 {
			t.Errorf("%vis %d", p, p.answer)
		}
	})
	for _, d := range demands {
		mayBeFull := slices.Contains([]string{"CallSend", "CallTake", "CallRenew"}, d.name)
		if (full[d.kind] > 0) != mayBeFull {
			t.Errorf("%s is AnsFull %d times", d.name, full[d.kind])
		}
		mayBePositive := d.name == "CallRead" || d.name == "CallTake"
		if (positive[d.kind] > 0) != mayBePositive {
			t.Errorf("%s is a positive number %d times", d.name, positive[d.kind])
		}
	}
}

// TestP66FetchedThroughWeak follows a chain of nodes from a weak right on.
func TestP66FetchedThroughWeak(t *testing.T) {
	for _, first := range append([]string{""}, rightLetters...) {
		for _, second := range append([]string{""}, rightLetters...) {
			for _, n := range []int{0, 1, 3, 4, 99} {
				near, far := node(0), node(0)
				if first != "" {
					near.Slots[n%4] = right(2, 0, first)
				}
				if second != "" {
					far.Slots[n%4] = right(4, 0, second)
				}
				table := []impl.Thing{near, far, run(0, right(1, 0, "r-k")), page(5, 0)}
				once, answer := impl.CallDo(table, impl.Call{Kind: impl.CallFetch, Run: 3, A: 0, B: 1, N: n})
				got := once[2].Slots[1]
				if want := lessened(near.Slots[n%4], 1); answer != 0 || got != want || got != noRight && (!got.Weak || got.Write) {
					t.Errorf("%v fetched through a weak right is %v, with %d", near.Slots[n%4], got, answer)
				}
				twice, answer := impl.CallDo(once, impl.Call{Kind: impl.CallFetch, Run: 3, A: 1, B: 2, N: n})
				got = twice[2].Slots[2]
				want, wantAnswer := noRight, -1
				if first != "" && first[0] == 'r' {
					want, wantAnswer = lessened(far.Slots[n%4], 1), 0
				}
				if answer != wantAnswer || got != want || got != noRight && (!got.Weak || got.Write) {
					t.Errorf("%v fetched through what was fetched, %q, is %v, with %d", far.Slots[n%4], first, got, answer)
				}
			}
		}
	}
}

// TestP66Around has a node with a right to itself, through which a weak right stays weak as often as it is fetched.
func TestP66Around(t *testing.T) {
	table := []impl.Thing{node(0, right(1, 0, "rw-"), right(3, 0, "rw-")), run(0, right(1, 0, "r-k")), page(5, 0)}
	for range 5 {
		table, _ = impl.CallDo(table, impl.Call{Kind: impl.CallFetch, Run: 2, A: 0, B: 0, N: 0})
		if got := table[1].Slots[0]; got != right(1, 0, "r-k") {
			t.Errorf("the right to the node itself is %v", got)
		}
		table, _ = impl.CallDo(table, impl.Call{Kind: impl.CallFetch, Run: 2, A: 0, B: 1, N: 1})
		if got := table[1].Slots[1]; got != right(3, 0, "r-k") {
			t.Errorf("the right to the page is %v", got)
		}
	}
}

func TestP67Numbers(t *testing.T) {
	eachPlay(func(p play) {
		n := p.call.N
		for i, was := range p.before {
			is := p.after[i]
			if is.Kind == 1 && !slices.Contains([]int{was.Num, 0, n, n % 2}, is.Num) {
				t.Errorf("%vthe page %d has the number %d", p, i+1, is.Num)
			}
			for _, queued := range is.Queue {
				if queued != n && !slices.Contains(was.Queue, queued) {
					t.Errorf("%vthe pipe %d has the number %d", p, i+1, queued)
				}
			}
		}
	})
}

// TestP41ArgumentsStay holds that no function changes its arguments, nor minds what is behind the ends of slices.
func TestP41ArgumentsStay(t *testing.T) {
	check := func(plain []impl.Thing, c impl.Call) {
		table := roomy(plain)
		before := whole(table)
		got, answer := impl.CallDo(table, c)
		want, wantAnswer := impl.CallDo(plain, c)
		if answer != wantAnswer || !sameTable(got, want) || !slices.Equal(impl.CallMoves(table, c), impl.CallMoves(plain, c)) {
			t.Errorf("what is behind the ends of slices changes %+v in %v", c, plain)
		}
		if after := whole(table); !reflect.DeepEqual(after, before) {
			t.Errorf("the argument is changed from %v to %v", before, after)
		}
	}
	eachSceneTable(func(table []impl.Thing) {
		for _, d := range demands {
			check(table, sceneCall(d.kind))
		}
	})
	for _, table := range everyTable() {
		for number := range 10 {
			for _, d := range demands {
				check(table, impl.Call{Kind: d.kind, Run: number, A: d.kind % 4, B: number % 4, N: 9})
			}
		}
	}
}

// overwrite changes all that can be reached from a table, also behind the ends of slices.
func overwrite(table []impl.Thing) {
	table = table[:cap(table)]
	for i, thing := range table {
		slots, queue := thing.Slots[:cap(thing.Slots)], thing.Queue[:cap(thing.Queue)]
		for j := range slots {
			slots[j] = right(7, 3, "rwk")
		}
		for j := range queue {
			queue[j] = 1000 + i
		}
		table[i] = impl.Thing{Kind: 77, Num: i}
	}
}

// TestP41ResultsShareNoMemory holds that neither an argument nor another result changes with a result.
func TestP41ResultsShareNoMemory(t *testing.T) {
	check := func(plain []impl.Thing, c impl.Call) {
		table := roomy(plain)
		before := whole(table)
		first, _ := impl.CallDo(table, c)
		second, _ := impl.CallDo(table, c)
		moves, others := impl.CallMoves(table, c), impl.CallMoves(table, c)
		wantFirst, wantMoves := copyTable(first), slices.Clone(moves)
		overwrite(second)
		for i := range others[:cap(others)] {
			others[:cap(others)][i] = -7
		}
		if !sameTable(first, wantFirst) || !slices.Equal(moves, wantMoves) || !reflect.DeepEqual(whole(table), before) {
			t.Errorf("%+v: a result shares memory with the table or with another result", c)
		}
		overwrite(table)
		if !sameTable(first, wantFirst) {
			t.Errorf("%+v: the result changes with the table", c)
		}
	}
	eachSceneTable(func(table []impl.Thing) {
		for _, d := range demands {
			check(table, sceneCall(d.kind))
		}
	})
	for _, table := range someTables() {
		for number := range table {
			for _, d := range demands {
				check(table, impl.Call{Kind: d.kind, Run: number + 1, A: number % 4, B: d.kind % 4, N: 6})
			}
		}
	}
}

// TestP41ObjectsShareNoMemory holds that no object of a result changes with another one.
func TestP41ObjectsShareNoMemory(t *testing.T) {
	for _, table := range append(companies(), alike(wide()), wide()) {
		for _, d := range demands {
			for a := range 4 {
				for number := range table {
					after, _ := impl.CallDo(table, impl.Call{Kind: d.kind, Run: number + 1, A: a, B: 3 - a, N: a})
					for i := range after {
						want := copyTable(after)
						slots, queue := after[i].Slots[:cap(after[i].Slots)], after[i].Queue[:cap(after[i].Queue)]
						for j := range slots {
							slots[j] = right(6, 6, "rwk")
						}
						for j := range queue {
							queue[j] = 2000
						}
						after[i], want[i] = impl.Thing{}, impl.Thing{}
						if !sameTable(after, want) {
							t.Fatalf("%s: object %d shares memory with another one", d.name, i+1)
						}
					}
				}
			}
		}
	}
}

// TestP41NilIsEmpty holds that a nil slice and an empty one count as the same.
func TestP41NilIsEmpty(t *testing.T) {
	check := func(plain []impl.Thing, c impl.Call) {
		one, other := copyTable(plain), copyTable(plain)
		for i, thing := range plain {
			if len(thing.Slots) == 0 {
				one[i].Slots, other[i].Slots = nil, []impl.Right{}
			}
			if len(thing.Queue) == 0 {
				one[i].Queue, other[i].Queue = nil, []int{}
			}
		}
		first, answer := impl.CallDo(one, c)
		second, otherAnswer := impl.CallDo(other, c)
		if answer != otherAnswer || !sameTable(first, second) || !slices.Equal(impl.CallMoves(one, c), impl.CallMoves(other, c)) {
			t.Errorf("%+v depends on nil slices in %v", c, plain)
		}
	}
	eachSceneTable(func(table []impl.Thing) {
		for _, d := range demands {
			check(table, sceneCall(d.kind))
		}
	})
	for _, table := range everyTable() {
		for number := range 10 {
			for _, d := range demands {
				check(table, impl.Call{Kind: d.kind, Run: number, A: d.kind % 4, B: 1, N: 7})
			}
		}
	}
	for _, empty := range [][]impl.Thing{nil, {}} {
		for _, d := range demands {
			if !isNothing(empty, impl.Call{Kind: d.kind, Run: 1}) {
				t.Errorf("%s in %#v does something", d.name, empty)
			}
		}
	}
}

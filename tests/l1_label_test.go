package tests

import (
	"math"
	"strings"
	"testing"

	"loop.example/drawbar/impl"
)

// categoriesOf says, for each sum of weights, whether the categories of weight 1 and of weight 2 are in: written out, so that it does not repeat the program's arithmetic.
var categoriesOf = [4][2]bool{
	0: {false, false},
	1: {true, false},
	2: {false, true},
	3: {true, true},
}

// sumOf is the opposite of categoriesOf.
func sumOf(set [2]bool) int {
	for sum, other := range categoriesOf {
		if other == set {
			return sum
		}
	}
	panic("no such set")
}

func subset(a, b int) bool {
	for i := range 2 {
		if categoriesOf[a][i] && !categoriesOf[b][i] {
			return false
		}
	}
	return true
}

func union(a, b int) int {
	x, y := categoriesOf[a], categoriesOf[b]
	return sumOf([2]bool{x[0] || y[0], x[1] || y[1]})
}

func intersection(a, b int) int {
	x, y := categoriesOf[a], categoriesOf[b]
	return sumOf([2]bool{x[0] && y[0], x[1] && y[1]})
}

func label(secret, vouch int) impl.Label {
	return impl.Label{Secret: secret, Vouch: vouch}
}

// labelTexts has every valid label with its text.
var labelTexts = []struct {
	label impl.Label
	text  string
}{
	{label(0, 0), "0/0"}, {label(0, 1), "0/1"}, {label(0, 2), "0/2"}, {label(0, 3), "0/3"},
	{label(1, 0), "1/0"}, {label(1, 1), "1/1"}, {label(1, 2), "1/2"}, {label(1, 3), "1/3"},
	{label(2, 0), "2/0"}, {label(2, 1), "2/1"}, {label(2, 2), "2/2"}, {label(2, 3), "2/3"},
	{label(3, 0), "3/0"}, {label(3, 1), "3/1"}, {label(3, 2), "3/2"}, {label(3, 3), "3/3"},
}

func allLabels() []impl.Label {
	var out []impl.Label
	for _, row := range labelTexts {
		out = append(out, row.label)
	}
	return out
}

// fieldsOutside are numbers out of range; some have the low bits of a valid one.
var fieldsOutside = []int{math.MinInt, math.MinInt + 1, math.MinInt32, -256, -4, -3, -2, -1, 4, 5, 7, 8, 256, 259, math.MaxInt32, 1 << 32, 1<<32 + 3, math.MaxInt - 1, math.MaxInt}

func invalidLabels() []impl.Label {
	var out []impl.Label
	for _, n := range fieldsOutside {
		for ok := range impl.LabelMax + 1 {
			out = append(out, label(n, ok), label(ok, n))
		}
		for _, m := range fieldsOutside {
			out = append(out, label(n, m))
		}
	}
	return out
}

func eachPair(check func(a, b impl.Label)) {
	for _, a := range allLabels() {
		for _, b := range allLabels() {
			check(a, b)
		}
	}
}

func eachTriple(check func(a, b, c impl.Label)) {
	eachPair(func(a, b impl.Label) {
		for _, c := range allLabels() {
			check(a, b, c)
		}
	})
}

// eachInvalidPair has an invalid label first, second, and in both places.
func eachInvalidPair(check func(a, b impl.Label)) {
	for _, bad := range invalidLabels() {
		for _, good := range allLabels() {
			check(bad, good)
			check(good, bad)
		}
		check(bad, bad)
		check(bad, label(math.MaxInt, math.MinInt))
	}
}

func TestP1ValidLabelIsReadBack(t *testing.T) {
	for _, row := range labelTexts {
		if got := impl.LabelText(row.label); got != row.text {
			t.Errorf("LabelText(%v) = %q, want %q", row.label, got, row.text)
		}
		got, ok := impl.LabelRead(impl.LabelText(row.label))
		if !ok || got != row.label {
			t.Errorf("LabelRead of the text of %v = %v, %v", row.label, got, ok)
		}
	}
}

func TestP1InvalidLabelHasNoText(t *testing.T) {
	for _, l := range invalidLabels() {
		if got := impl.LabelText(l); got != "" {
			t.Errorf("LabelText(%v) = %q, want an empty string", l, got)
		}
	}
}

// checkRead holds LabelRead against the table of texts, and says whether it succeeded.
func checkRead(t *testing.T, text string) bool {
	t.Helper()
	var want impl.Label
	known := false
	for _, row := range labelTexts {
		if row.text == text {
			want, known = row.label, true
		}
	}
	got, ok := impl.LabelRead(text)
	if got != want || ok != known {
		t.Errorf("LabelRead(%q) = %v, %v, want %v, %v", text, got, ok, want, known)
	}
	if ok && (!impl.LabelOk(got) || impl.LabelText(got) != text) {
		t.Errorf("LabelRead(%q) = %v, whose text is %q", text, got, impl.LabelText(got))
	}
	return ok
}

func TestP2ShortTexts(t *testing.T) {
	bytes := "01234/-+ .x\x00\n\xff"
	texts := []string{""}
	count := 0
	for range 5 {
		var longer []string
		for _, text := range texts {
			if checkRead(t, text) {
				count++
			}
			for i := range len(bytes) {
				longer = append(longer, text+bytes[i:i+1])
			}
		}
		texts = longer
	}
	if count != 16 {
		t.Errorf("%d texts are read, want 16", count)
	}
}

func TestP2TextsOfNoLabel(t *testing.T) {
	texts := []string{
		"", "/", "//", "0", "3", "11", "1/", "/1", "1//1", "//1", "1//", "1/1/", "/1/1", "1/1/1",
		"01/1", "1/01", "00/0", "0/00", "001/1", "1/001",
		"+1/1", "1/+1", "-1/1", "1/-1", "-0/0", "0/-0", "-1/-1",
		" 1/1", "1/1 ", "1 /1", "1/ 1", "1 1", "\t1/1", "1/1\t", " ",
		"4/0", "0/4", "4/4", "9/9", "10/1", "1/10", "13/1", "1/13", "256/0", "0/259", "4294967297/1", "1/18446744073709551617",
		"9223372036854775807/0", "0/-9223372036854775808", "99999999999999999999/0",
		"x1/1", "1/1x", "1/1\n", "\n1/1", "1/1\x00", "\x001/1", "1/11/1", "1/1,2/2", "label 1/1",
		"1-1", "1:1", "1\\1", "1.0/1", "0x1/1", "1e0/1", "1_/1", "a/b", "\xff/\xff", "\u0661/\u0661", "\uff11/1", "1/\uff11", "1\u22151", "1\uff0f1",
		strings.Repeat("1", 1000) + "/1", strings.Repeat("1/1", 1000),
	}
	for _, text := range texts {
		if checkRead(t, text) {
			t.Errorf("LabelRead(%q) succeeds", text)
		}
	}
}

func TestP2AnyByteAroundALabel(t *testing.T) {
	for _, row := range labelTexts {
		for b := range 256 {
			more := string([]byte{byte(b)})
			for i := range len(row.text) + 1 {
				checkRead(t, row.text[:i]+more+row.text[i:])
				if i < len(row.text) {
					checkRead(t, row.text[:i]+more+row.text[i+1:])
				}
			}
		}
	}
}

func TestP3FlowIsAnOrder(t *testing.T) {
	for _, a := range allLabels() {
		if !impl.LabelFlow(a, a) {
			t.Errorf("no flow from %v to itself", a)
		}
	}
	eachPair(func(a, b impl.Label) {
		if a != b && impl.LabelFlow(a, b) && impl.LabelFlow(b, a) {
			t.Errorf("flow both ways between %v and %v", a, b)
		}
	})
	eachTriple(func(a, b, c impl.Label) {
		if impl.LabelFlow(a, b) && impl.LabelFlow(b, c) && !impl.LabelFlow(a, c) {
			t.Errorf("flow from %v by %v to %v, but not at once", a, b, c)
		}
	})
}

func TestP3InvalidLabelDoesNotFlowToItself(t *testing.T) {
	for _, l := range invalidLabels() {
		if impl.LabelFlow(l, l) {
			t.Errorf("flow from the invalid label %v to itself", l)
		}
	}
}

func TestP4LowestAndHighest(t *testing.T) {
	lowest, highest := label(0, 3), label(3, 0)
	for _, l := range allLabels() {
		if !impl.LabelFlow(lowest, l) {
			t.Errorf("no flow from the lowest label to %v", l)
		}
		if !impl.LabelFlow(l, highest) {
			t.Errorf("no flow from %v to the highest label", l)
		}
		if l != lowest && impl.LabelFlow(l, lowest) {
			t.Errorf("flow from %v to the lowest label", l)
		}
		if l != highest && impl.LabelFlow(highest, l) {
			t.Errorf("flow from the highest label to %v", l)
		}
	}
	for _, l := range invalidLabels() {
		if impl.LabelFlow(lowest, l) || impl.LabelFlow(l, highest) {
			t.Errorf("the invalid label %v has a place in the order", l)
		}
	}
}

func TestP5JoinIsLeastUpperBound(t *testing.T) {
	eachPair(func(a, b impl.Label) {
		join := impl.LabelJoin(a, b)
		if !impl.LabelFlow(a, join) || !impl.LabelFlow(b, join) {
			t.Errorf("LabelJoin(%v, %v) = %v is no upper bound", a, b, join)
		}
		if join != impl.LabelJoin(b, a) {
			t.Errorf("LabelJoin of %v and %v depends on their order", a, b)
		}
	})
	eachTriple(func(a, b, bound impl.Label) {
		join := impl.LabelJoin(a, b)
		if impl.LabelFlow(a, bound) && impl.LabelFlow(b, bound) && !impl.LabelFlow(join, bound) {
			t.Errorf("LabelJoin(%v, %v) = %v is not below the upper bound %v", a, b, join, bound)
		}
	})
}

func TestP5JoinOfInvalidLabels(t *testing.T) {
	eachInvalidPair(func(a, b impl.Label) {
		if got := impl.LabelJoin(a, b); got != label(0, 0) {
			t.Errorf("LabelJoin(%v, %v) = %v, want the zero value", a, b, got)
		}
	})
}

func TestP6MeetIsGreatestLowerBound(t *testing.T) {
	eachPair(func(a, b impl.Label) {
		meet := impl.LabelMeet(a, b)
		if !impl.LabelFlow(meet, a) || !impl.LabelFlow(meet, b) {
			t.Errorf("LabelMeet(%v, %v) = %v is no lower bound", a, b, meet)
		}
		if meet != impl.LabelMeet(b, a) {
			t.Errorf("LabelMeet of %v and %v depends on their order", a, b)
		}
	})
	eachTriple(func(a, b, bound impl.Label) {
		meet := impl.LabelMeet(a, b)
		if impl.LabelFlow(bound, a) && impl.LabelFlow(bound, b) && !impl.LabelFlow(bound, meet) {
			t.Errorf("LabelMeet(%v, %v) = %v is not above the lower bound %v", a, b, meet, bound)
		}
	})
}

func TestP6MeetOfInvalidLabels(t *testing.T) {
	eachInvalidPair(func(a, b impl.Label) {
		if got := impl.LabelMeet(a, b); got != label(0, 0) {
			t.Errorf("LabelMeet(%v, %v) = %v, want the zero value", a, b, got)
		}
	})
}

func TestP7JoinAndMeetAreAssociative(t *testing.T) {
	eachTriple(func(a, b, c impl.Label) {
		if impl.LabelJoin(impl.LabelJoin(a, b), c) != impl.LabelJoin(a, impl.LabelJoin(b, c)) {
			t.Errorf("LabelJoin of %v, %v and %v depends on the grouping", a, b, c)
		}
		if impl.LabelMeet(impl.LabelMeet(a, b), c) != impl.LabelMeet(a, impl.LabelMeet(b, c)) {
			t.Errorf("LabelMeet of %v, %v and %v depends on the grouping", a, b, c)
		}
	})
}

func TestP8FlowByJoinAndByMeet(t *testing.T) {
	eachPair(func(a, b impl.Label) {
		flow := impl.LabelFlow(a, b)
		if flow != (impl.LabelJoin(a, b) == b) {
			t.Errorf("LabelFlow(%v, %v) = %v, but the join is %v", a, b, flow, impl.LabelJoin(a, b))
		}
		if flow != (impl.LabelMeet(a, b) == a) {
			t.Errorf("LabelFlow(%v, %v) = %v, but the meet is %v", a, b, flow, impl.LabelMeet(a, b))
		}
	})
}

func TestP9LabelOkByRange(t *testing.T) {
	if impl.LabelMax != 3 {
		t.Fatalf("LabelMax = %d", impl.LabelMax)
	}
	for _, l := range allLabels() {
		if !impl.LabelOk(l) {
			t.Errorf("%v is not valid", l)
		}
	}
	for _, l := range invalidLabels() {
		if impl.LabelOk(l) {
			t.Errorf("%v is valid", l)
		}
	}
	for secret := -10; secret <= 20; secret++ {
		for vouch := -10; vouch <= 20; vouch++ {
			want := 0 <= secret && secret <= 3 && 0 <= vouch && vouch <= 3
			if impl.LabelOk(label(secret, vouch)) != want {
				t.Errorf("LabelOk of %d and %d is not %v", secret, vouch, want)
			}
		}
	}
}

func TestP10FlowByCategories(t *testing.T) {
	count := 0
	eachPair(func(a, b impl.Label) {
		want := subset(a.Secret, b.Secret) && subset(b.Vouch, a.Vouch)
		if impl.LabelFlow(a, b) != want {
			t.Errorf("LabelFlow(%v, %v) is not %v", a, b, want)
		}
		if impl.LabelFlow(a, b) {
			count++
		}
	})
	if count != 81 { // nine of sixteen pairs of sets are ordered, for each of the two fields
		t.Errorf("%d pairs flow, want 81", count)
	}
}

func TestP10Examples(t *testing.T) {
	cases := []struct {
		from, to impl.Label
		want     bool
	}{
		{label(0, 0), label(1, 0), true},
		{label(1, 0), label(0, 0), false},
		{label(0, 1), label(0, 0), true},
		{label(0, 0), label(0, 1), false},
		{label(1, 0), label(2, 0), false},
		{label(2, 0), label(1, 0), false},
		{label(0, 1), label(0, 2), false},
		{label(0, 2), label(0, 1), false},
		{label(1, 3), label(3, 2), true},
		{label(3, 2), label(1, 3), false},
		{label(1, 1), label(3, 3), false},
		{label(3, 3), label(1, 1), false},
	}
	for _, c := range cases {
		if impl.LabelFlow(c.from, c.to) != c.want {
			t.Errorf("LabelFlow(%v, %v) is not %v", c.from, c.to, c.want)
		}
	}
}

func TestP10NoFlowWithInvalidLabels(t *testing.T) {
	eachInvalidPair(func(a, b impl.Label) {
		if impl.LabelFlow(a, b) {
			t.Errorf("flow from %v to %v", a, b)
		}
	})
}

func TestP11JoinAndMeetByCategories(t *testing.T) {
	eachPair(func(a, b impl.Label) {
		join := label(union(a.Secret, b.Secret), intersection(a.Vouch, b.Vouch))
		if got := impl.LabelJoin(a, b); got != join {
			t.Errorf("LabelJoin(%v, %v) = %v, want %v", a, b, got, join)
		}
		meet := label(intersection(a.Secret, b.Secret), union(a.Vouch, b.Vouch))
		if got := impl.LabelMeet(a, b); got != meet {
			t.Errorf("LabelMeet(%v, %v) = %v, want %v", a, b, got, meet)
		}
	})
}

func TestP11Examples(t *testing.T) {
	cases := []struct{ a, b, join, meet impl.Label }{
		{label(1, 1), label(2, 2), label(3, 0), label(0, 3)},
		{label(1, 1), label(2, 3), label(3, 1), label(0, 3)},
		{label(1, 1), label(3, 2), label(3, 0), label(1, 3)},
		{label(3, 3), label(0, 0), label(3, 0), label(0, 3)},
		{label(2, 1), label(2, 1), label(2, 1), label(2, 1)},
	}
	for _, c := range cases {
		if got := impl.LabelJoin(c.a, c.b); got != c.join {
			t.Errorf("LabelJoin(%v, %v) = %v, want %v", c.a, c.b, got, c.join)
		}
		if got := impl.LabelMeet(c.a, c.b); got != c.meet {
			t.Errorf("LabelMeet(%v, %v) = %v, want %v", c.a, c.b, got, c.meet)
		}
	}
}

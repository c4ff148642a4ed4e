package tests

import (
	"fmt"
	"math"
	"strings"
	"testing"

	"loop.example/drawbar/impl"
)

// rightLetters has what a right to an object can be: readable, writable, weak, but not the last two together.
var rightLetters = []string{"---", "r--", "-w-", "rw-", "--k", "r-k"}

// lettersIn has, for the letters of a right, those of all rights to the same version of the same object that are contained in it.
var lettersIn = map[string][]string{
	"---": {"---", "--k"},
	"r--": {"---", "r--", "--k", "r-k"},
	"-w-": {"---", "-w-", "--k"},
	"rw-": {"---", "r--", "-w-", "rw-", "--k", "r-k"},
	"--k": {"--k"},
	"r-k": {"--k", "r-k"},
}

// keep is the flags of RightLess.
type keep struct{ read, write, strong bool }

// keeps has all combinations of the flags, in the order of the columns of lettersLess.
var keeps = [8]keep{
	{false, false, false}, {true, false, false}, {false, true, false}, {true, true, false},
	{false, false, true}, {true, false, true}, {false, true, true}, {true, true, true},
}

// lettersLess has, for the letters of a right, those of RightLess with each of keeps.
var lettersLess = map[string][8]string{
	"---": {"--k", "--k", "--k", "--k", "---", "---", "---", "---"},
	"r--": {"--k", "r-k", "--k", "r-k", "---", "r--", "---", "r--"},
	"-w-": {"--k", "--k", "--k", "--k", "---", "---", "-w-", "-w-"},
	"rw-": {"--k", "r-k", "--k", "r-k", "---", "r--", "-w-", "rw-"},
	"--k": {"--k", "--k", "--k", "--k", "--k", "--k", "--k", "--k"},
	"r-k": {"--k", "r-k", "--k", "r-k", "--k", "r-k", "--k", "r-k"},
}

var noRight impl.Right

// right is the right with these letters, which may be one that is not valid.
func right(thing, vers int, letters string) impl.Right {
	return impl.Right{Thing: thing, Vers: vers, Read: letters[0] == 'r', Write: letters[1] == 'w', Weak: letters[2] == 'k'}
}

// lettersOf is the opposite of right.
func lettersOf(r impl.Right) string {
	for _, letters := range append([]string{"-wk", "rwk"}, rightLetters...) {
		if right(r.Thing, r.Vers, letters) == r {
			return letters
		}
	}
	panic("no such letters")
}

func less(r impl.Right, k keep) impl.Right {
	return impl.RightLess(r, k.read, k.write, k.strong)
}

// allRights has every valid right, the null capability first.
func allRights() []impl.Right {
	out := []impl.Right{noRight}
	for thing := 1; thing <= 8; thing++ {
		for vers := 0; vers <= 5; vers++ {
			for _, letters := range rightLetters {
				out = append(out, right(thing, vers, letters))
			}
		}
	}
	return out
}

// rightsByText has every valid right by its text.
func rightsByText() map[string]impl.Right {
	out := map[string]impl.Right{"-": noRight}
	for _, r := range allRights()[1:] {
		out[fmt.Sprintf("%d.%d%s", r.Thing, r.Vers, lettersOf(r))] = r
	}
	return out
}

// numbersOutside are out of the range of Thing and of that of Vers.
var numbersOutside = []int{math.MinInt, math.MinInt + 1, math.MinInt32, -256, -8, -5, -1, 9, 10, 16, 256, 257, math.MaxInt32, 1 << 32, 1<<32 + 1, math.MaxInt - 1, math.MaxInt}

// invalidRights has rights that are invalid for one reason, and for several.
func invalidRights() []impl.Right {
	var out []impl.Right
	for _, letters := range append([]string{"-wk", "rwk"}, rightLetters...) {
		for _, n := range numbersOutside {
			for thing := 0; thing <= 8; thing++ {
				out = append(out, right(thing, n, letters))
			}
			for vers := 0; vers <= 5; vers++ {
				out = append(out, right(n, vers, letters))
			}
			out = append(out, right(n, n, letters), right(n, math.MinInt, letters), right(math.MaxInt, n, letters))
		}
		for thing := 1; thing <= 8; thing++ {
			out = append(out, right(thing, 6, letters), right(thing, 7, letters), right(thing, 8, letters))
			if strings.HasSuffix(letters, "wk") {
				for vers := 0; vers <= 5; vers++ {
					out = append(out, right(thing, vers, letters))
				}
			}
		}
		for vers := 0; vers <= 8; vers++ {
			if vers != 0 || letters != "---" {
				out = append(out, right(0, vers, letters))
			}
		}
	}
	return out
}

func eachLess(check func(r impl.Right, k keep)) {
	for _, r := range allRights() {
		for _, k := range keeps {
			check(r, k)
		}
	}
}

func TestP12ValidRightIsReadBack(t *testing.T) {
	rights := rightsByText()
	if len(rights) != 289 { // 8 objects, 6 versions, 6 sets of letters, and the null capability
		t.Fatalf("%d rights", len(rights))
	}
	for text, r := range rights {
		if got := impl.RightText(r); got != text {
			t.Errorf("RightText(%v) = %q, want %q", r, got, text)
		}
		got, ok := impl.RightRead(impl.RightText(r))
		if !ok || got != r {
			t.Errorf("RightRead of the text of %v = %v, %v", r, got, ok)
		}
	}
}

func TestP12Examples(t *testing.T) {
	cases := []struct {
		r    impl.Right
		text string
	}{
		{impl.Right{}, "-"},
		{impl.Right{Thing: 3, Read: true, Write: true}, "3.0rw-"},
		{impl.Right{Thing: 1}, "1.0---"},
		{impl.Right{Thing: 8, Vers: 5, Read: true, Weak: true}, "8.5r-k"},
		{impl.Right{Thing: 2, Vers: 4, Write: true}, "2.4-w-"},
		{impl.Right{Thing: 7, Vers: 1, Weak: true}, "7.1--k"},
	}
	for _, c := range cases {
		if got := impl.RightText(c.r); got != c.text {
			t.Errorf("RightText(%v) = %q, want %q", c.r, got, c.text)
		}
		if got, ok := impl.RightRead(c.text); !ok || got != c.r {
			t.Errorf("RightRead(%q) = %v, %v, want %v", c.text, got, ok, c.r)
		}
	}
}

func TestP12InvalidRightHasNoText(t *testing.T) {
	for _, r := range invalidRights() {
		if got := impl.RightText(r); got != "" {
			t.Errorf("RightText(%v) = %q, want an empty string", r, got)
		}
	}
}

// rightReader holds RightRead against all texts of rights, and counts those that are read.
type rightReader struct {
	rights map[string]impl.Right
	count  int
}

func (reader *rightReader) check(t *testing.T, text string) {
	t.Helper()
	want, known := reader.rights[text]
	got, ok := impl.RightRead(text)
	if got != want || ok != known {
		t.Errorf("RightRead(%q) = %v, %v, want %v, %v", text, got, ok, want, known)
	}
	if !ok {
		return
	}
	reader.count++
	if !impl.RightOk(got) || impl.RightText(got) != text {
		t.Errorf("RightRead(%q) = %v, whose text is %q", text, got, impl.RightText(got))
	}
}

func TestP13ShortTexts(t *testing.T) {
	reader := &rightReader{rights: rightsByText()}
	bytes := "0158.-rwkR+"
	texts := []string{""}
	for range 6 {
		var longer []string
		for _, text := range texts {
			reader.check(t, text)
			for i := range len(bytes) {
				longer = append(longer, text+bytes[i:i+1])
			}
		}
		texts = longer
	}
	for _, text := range texts {
		reader.check(t, text)
	}
	if reader.count != 1+3*3*6 { // of these digits, 3 can be an object's and 3 a version's
		t.Errorf("%d texts are read, want 55", reader.count)
	}
}

func TestP13TextsOfNoRight(t *testing.T) {
	groups := map[string][]string{
		"empty or a part":          {"", ".", "..", "r", "rw-", "---", ".0r--", "1.r--", "1r--", "10r--", ".r--", "1", "1.", "1.0", "0.0"},
		"a letter missing":         {"1.0", "1.0r", "1.0rw", "1.0r-", "1.0--", "1.0-", "1.0w-", "1.0-k"},
		"a letter doubled":         {"1.0rr--", "1.0rww-", "1.0rw--", "1.0r-kk", "1.0----", "1.0rr-", "1.0-ww", "1.0kkk"},
		"letters in another order": {"1.0wr-", "1.0-rw", "1.0k--", "1.0-k-", "1.0--r", "1.0--w", "1.0kr-", "1.0w--", "1.0-r-"},
		"another case":             {"1.0R--", "1.0-W-", "1.0--K", "1.0RW-", "1.0rW-", "1.0R-k"},
		"other letters":            {"1.0x--", "1.0-x-", "1.0--x", "1.0...", "1.0   ", "1.0000", "1.0r_-", "1.0r\u2013", "1.0\u2010\u2010\u2010"},
		"a leading zero":           {"01.0r--", "1.00r--", "1.01r--", "001.0r--", "1.000r--", "00.0---"},
		"a sign":                   {"+1.0r--", "1.+0r--", "-1.0r--", "1.-0r--", "1.-1r--", "1.+1r--", "-0.0---", "--1.0r--"},
		"a blank":                  {" ", " -", "- ", " 1.0r--", "1.0r-- ", "1 .0r--", "1. 0r--", "1.0 r--", "1.0r --", "\t1.0r--", "1.0r--\n", "1.0r--\x00"},
		"a number out of range": {"0.0---", "0.0r--", "0.1---", "0.0--k", "9.0r--", "1.6r--", "9.6r--", "10.0r--", "1.10r--", "18.0r--", "1.55r--",
			"257.0r--", "1.256r--", "4294967297.0r--", "1.4294967296r--", "18446744073709551617.0r--", "1.18446744073709551616r--",
			"9223372036854775807.0r--", "1.9223372036854775807r--", "-9223372036854775808.0r--", "1.-9223372036854775808r--", "99999999999999999999.0r--"},
		"weak and writable":           {"1.0-wk", "1.0rwk", "8.5rwk", "8.5-wk"},
		"something before or behind":  {"x1.0r--", "1.0r--x", "11.0r--", "1.0r--1", ".1.0r--", "1.0r--.", "1..0r--", "1.0.r--", "1.0r--1.0r--", "1.0r--,2.0r--", "1.0r---", "-1.0r--", "1.0.0r--"},
		"null followed by something":  {"--", "---", "- ", "-r", "-0", "-1", "-1.0r--", "-\n", "-\x00", "-.", "-.0r--", "-.----"},
		"null preceded by something":  {" -", "+-", "0-", "1-", "1.0-", "\n-"},
		"other spellings of a number": {"1e0.0r--", "0x1.0r--", "1_0.0r--", "1.0x0r--", "1.0_r--", "a.0r--", "1.ar--", "\uff11.0r--", "1.\u0660r--", "1,0r--", "1:0r--", "1/0r--", "\xff.0r--"},
		"long":                        {strings.Repeat("1", 1000) + ".0r--", "1." + strings.Repeat("0", 1000) + "r--", strings.Repeat("-", 1000), strings.Repeat("1.0r--", 1000)},
	}
	for name, texts := range groups {
		for _, text := range texts {
			if got, ok := impl.RightRead(text); ok || got != noRight {
				t.Errorf("%s: RightRead(%q) = %v, %v, want false", name, text, got, ok)
			}
		}
	}
}

func TestP13AnyByteChanged(t *testing.T) {
	reader := &rightReader{rights: rightsByText()}
	for text := range reader.rights {
		for i := range len(text) {
			reader.check(t, text[:i]+text[i+1:])
			reader.check(t, text[:i]+text[i:i+1]+text[i:])
		}
		for b := range 256 {
			more := string([]byte{byte(b)})
			for i := range len(text) + 1 {
				reader.check(t, text[:i]+more+text[i:])
				if i < len(text) {
					reader.check(t, text[:i]+more+text[i+1:])
				}
			}
		}
	}
}

func TestP14RightOkByFields(t *testing.T) {
	if impl.ThingMax != 8 || impl.VersMax != 5 {
		t.Fatalf("ThingMax = %d, VersMax = %d", impl.ThingMax, impl.VersMax)
	}
	for _, r := range allRights() {
		if !impl.RightOk(r) {
			t.Errorf("%v is not valid", r)
		}
	}
	for _, r := range invalidRights() {
		if impl.RightOk(r) {
			t.Errorf("%v is valid", r)
		}
	}
	for thing := -2; thing <= 18; thing++ {
		for vers := -2; vers <= 15; vers++ {
			for _, letters := range append([]string{"-wk", "rwk"}, rightLetters...) {
				r := right(thing, vers, letters)
				held := 1 <= thing && thing <= 8 && 0 <= vers && vers <= 5 && letters[1:] != "wk"
				if want := held || r == noRight; impl.RightOk(r) != want {
					t.Errorf("RightOk(%v) is not %v", r, want)
				}
			}
		}
	}
}

func TestP14Examples(t *testing.T) {
	cases := []struct {
		r    impl.Right
		want bool
	}{
		{impl.Right{}, true},
		{impl.Right{Vers: 1}, false},
		{impl.Right{Read: true}, false},
		{impl.Right{Write: true}, false},
		{impl.Right{Weak: true}, false},
		{impl.Right{Vers: 5, Read: true, Write: true}, false},
		{impl.Right{Thing: 1}, true},
		{impl.Right{Thing: 8}, true},
		{impl.Right{Thing: 9}, false},
		{impl.Right{Thing: -1}, false},
		{impl.Right{Thing: math.MaxInt}, false},
		{impl.Right{Thing: math.MinInt}, false},
		{impl.Right{Thing: 1, Vers: 5}, true},
		{impl.Right{Thing: 1, Vers: 6}, false},
		{impl.Right{Thing: 1, Vers: -1}, false},
		{impl.Right{Thing: 1, Vers: math.MaxInt}, false},
		{impl.Right{Thing: 1, Vers: math.MinInt}, false},
		{impl.Right{Thing: 1, Write: true}, true},
		{impl.Right{Thing: 1, Weak: true}, true},
		{impl.Right{Thing: 1, Read: true, Weak: true}, true},
		{impl.Right{Thing: 1, Write: true, Weak: true}, false},
		{impl.Right{Thing: 1, Read: true, Write: true, Weak: true}, false},
	}
	for _, c := range cases {
		if impl.RightOk(c.r) != c.want {
			t.Errorf("RightOk(%v) is not %v", c.r, c.want)
		}
	}
}

// contained says, by the table, whether a valid right is contained in another one.
func contained(a, b impl.Right) bool {
	if a == noRight {
		return true
	}
	if b == noRight || a.Thing != b.Thing || a.Vers != b.Vers {
		return false
	}
	for _, letters := range lettersIn[lettersOf(b)] {
		if letters == lettersOf(a) {
			return true
		}
	}
	return false
}

func TestP15InIsReflexiveAndAntisymmetric(t *testing.T) {
	rights := allRights()
	for _, a := range rights {
		if !impl.RightIn(a, a) {
			t.Errorf("%v is not contained in itself", a)
		}
		if !impl.RightIn(noRight, a) {
			t.Errorf("the null capability is not contained in %v", a)
		}
		if a != noRight && impl.RightIn(a, noRight) {
			t.Errorf("%v is contained in the null capability", a)
		}
		for _, b := range rights {
			if a != b && impl.RightIn(a, b) && impl.RightIn(b, a) {
				t.Errorf("%v and %v are contained in each other", a, b)
			}
		}
	}
}

func TestP15InByFields(t *testing.T) {
	rights := allRights()
	count := 0
	for _, a := range rights {
		for _, b := range rights {
			if want := contained(a, b); impl.RightIn(a, b) != want {
				t.Errorf("RightIn(%v, %v) is not %v", a, b, want)
			}
			if impl.RightIn(a, b) {
				count++
			}
		}
	}
	if count != 289+48*18 { // null in each, and the 18 pairs of the table for each version of each object
		t.Errorf("%d pairs are contained, want 1153", count)
	}
}

func TestP15Examples(t *testing.T) {
	cases := []struct {
		a, b impl.Right
		want bool
	}{
		{right(3, 1, "r--"), right(3, 1, "rw-"), true},
		{right(3, 1, "rw-"), right(3, 1, "r--"), false},
		{right(3, 1, "-w-"), right(3, 1, "r--"), false},
		{right(3, 1, "r-k"), right(3, 1, "r--"), true},
		{right(3, 1, "r--"), right(3, 1, "r-k"), false},
		{right(3, 1, "---"), right(3, 1, "--k"), false},
		{right(3, 1, "--k"), right(3, 1, "---"), true},
		{right(3, 1, "r--"), right(3, 2, "rw-"), false},
		{right(3, 2, "r--"), right(3, 1, "rw-"), false},
		{right(3, 1, "r--"), right(4, 1, "rw-"), false},
		{right(4, 1, "r--"), right(3, 1, "rw-"), false},
		{noRight, noRight, true},
		{noRight, right(1, 0, "--k"), true},
		{right(1, 0, "--k"), noRight, false},
	}
	for _, c := range cases {
		if impl.RightIn(c.a, c.b) != c.want {
			t.Errorf("RightIn(%v, %v) is not %v", c.a, c.b, c.want)
		}
	}
}

func TestP15InvalidRightsAreNotContained(t *testing.T) {
	good := allRights()
	for _, bad := range invalidRights() {
		if impl.RightIn(bad, bad) {
			t.Errorf("the invalid %v is contained in itself", bad)
		}
		for _, r := range good {
			if impl.RightIn(bad, r) || impl.RightIn(r, bad) {
				t.Errorf("%v and the invalid %v: one is contained in the other", r, bad)
			}
		}
	}
}

func TestP16InIsTransitive(t *testing.T) {
	rights := allRights()
	in := make([][]bool, len(rights))
	for i, a := range rights {
		in[i] = make([]bool, len(rights))
		for j, b := range rights {
			in[i][j] = impl.RightIn(a, b)
		}
	}
	for i, a := range rights {
		for j, b := range rights {
			if !in[i][j] {
				continue
			}
			for k, c := range rights {
				if in[j][k] && !in[i][k] {
					t.Errorf("%v is contained in %v, and that in %v, but not the first in the last", a, b, c)
				}
			}
		}
	}
}

func TestP16InIsTransitiveForARestrictedRight(t *testing.T) {
	rights := allRights()
	eachLess(func(c impl.Right, k keep) {
		third := less(c, k)
		for _, b := range rights {
			if !impl.RightIn(b, third) {
				continue
			}
			if !impl.RightIn(b, c) {
				t.Errorf("%v is contained in %v, restricted of %v, but not in that", b, third, c)
			}
			for _, a := range rights {
				if impl.RightIn(a, b) && (!impl.RightIn(a, third) || !impl.RightIn(a, c)) {
					t.Errorf("%v is contained in %v, but not in %v, restricted of %v", a, b, third, c)
				}
			}
		}
		for _, b := range rights {
			if impl.RightIn(c, b) && !impl.RightIn(third, b) {
				t.Errorf("%v is contained in %v, but not when restricted to %v", c, b, third)
			}
		}
	})
}

func TestP17LessGivesNoMore(t *testing.T) {
	eachLess(func(r impl.Right, k keep) {
		got := less(r, k)
		if !impl.RightOk(got) || !impl.RightIn(got, r) {
			t.Errorf("RightLess(%v, %v) = %v is not contained in it", r, k, got)
		}
		if got.Thing != r.Thing || got.Vers != r.Vers {
			t.Errorf("RightLess(%v, %v) = %v is to something else", r, k, got)
		}
		if less(got, k) != got {
			t.Errorf("RightLess(%v, %v) = %v, but twice it is %v", r, k, got, less(got, k))
		}
		if got.Read && !k.read || got.Write && !k.write || got.Write && !k.strong {
			t.Errorf("RightLess(%v, %v) = %v permits what it should not", r, k, got)
		}
		if !k.strong && r != noRight && !got.Weak {
			t.Errorf("RightLess(%v, %v) = %v is not weak", r, k, got)
		}
	})
	for _, r := range allRights() {
		if got := impl.RightLess(r, true, true, true); got != r {
			t.Errorf("RightLess(%v) with all flags is %v", r, got)
		}
	}
}

func TestP17NullStaysNull(t *testing.T) {
	for _, k := range keeps {
		if got := less(noRight, k); got != noRight {
			t.Errorf("RightLess of the null capability with %v is %v", k, got)
		}
	}
}

func TestP17LessOfInvalidRights(t *testing.T) {
	for _, r := range invalidRights() {
		for _, k := range keeps {
			if got := less(r, k); got != noRight {
				t.Errorf("RightLess(%v, %v) = %v, want the zero value", r, k, got)
			}
		}
	}
}

func TestP18LessByLetters(t *testing.T) {
	for thing := 1; thing <= 8; thing++ {
		for vers := 0; vers <= 5; vers++ {
			for _, letters := range rightLetters {
				for i, k := range keeps {
					r, want := right(thing, vers, letters), right(thing, vers, lettersLess[letters][i])
					if got := less(r, k); got != want {
						t.Errorf("RightLess(%v, %v) = %v, want %v", r, k, got, want)
					}
				}
			}
		}
	}
}

func TestP18LessByFields(t *testing.T) {
	eachLess(func(r impl.Right, k keep) {
		got := less(r, k)
		if got.Read != (r.Read && k.read) {
			t.Errorf("RightLess(%v, %v) = %v: readable is wrong", r, k, got)
		}
		if got.Write != (r.Write && k.write && k.strong) {
			t.Errorf("RightLess(%v, %v) = %v: writable is wrong", r, k, got)
		}
		if r != noRight && got.Weak != (r.Weak || !k.strong) {
			t.Errorf("RightLess(%v, %v) = %v: weak is wrong", r, k, got)
		}
	})
}

func TestP19TextsDiffer(t *testing.T) {
	rights := map[string]impl.Right{}
	for _, r := range allRights() {
		text := impl.RightText(r)
		if other, ok := rights[text]; ok {
			t.Errorf("%v and %v have the same text %q", r, other, text)
		}
		rights[text] = r
		if text == "" {
			t.Errorf("%v has the text of invalid rights", r)
		}
	}
}

func TestP20LessTwice(t *testing.T) {
	eachLess(func(r impl.Right, first keep) {
		for _, second := range keeps {
			both := keep{first.read && second.read, first.write && second.write, first.strong && second.strong}
			one, other, want := less(less(r, first), second), less(less(r, second), first), less(r, both)
			if one != want || other != want {
				t.Errorf("RightLess of %v with %v and %v is %v and %v by the order, want %v", r, first, second, one, other, want)
			}
		}
	})
}

func TestP20LessTwiceOfInvalidRights(t *testing.T) {
	for _, r := range invalidRights() {
		for i, first := range keeps {
			second := keeps[len(keeps)-1-i]
			if got := less(less(r, first), second); got != noRight {
				t.Errorf("RightLess of RightLess of the invalid %v is %v", r, got)
			}
		}
	}
}

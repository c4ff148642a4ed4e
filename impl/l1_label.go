package impl

import "strconv"

// LabelMax is the greatest number of what a label tells: two marks, 1 and 2, together.
const LabelMax = 3

// Label is a label: which secrets are in, and by whom it is vouched for.
type Label struct {
	Secret int
	Vouch  int
}

// categories is a set of categories, each the bit of its weight, so that a sum of weights is the set itself.
type categories uint

// sum is the number by which a label holds the set.
func (c categories) sum() int {
	return int(c)
}

// within says whether every category of the set is one of the other.
func (c categories) within(other categories) bool {
	return c&^other == 0
}

// secrets is the secrecy categories of a valid label.
func (l Label) secrets() categories {
	return categories(l.Secret)
}

// vouchers is the integrity categories of a valid label.
func (l Label) vouchers() categories {
	return categories(l.Vouch)
}

// LabelOk says whether a label is ok.
func LabelOk(l Label) bool {
	return sumOk(l.Secret) && sumOk(l.Vouch)
}

// sumOk says whether a number is a sum of weights.
func sumOk(n int) bool {
	return n >= 0 && n <= LabelMax
}

// LabelFlow says whether what has one label may flow to what has another one.
func LabelFlow(from Label, to Label) bool {
	if !LabelOk(from) || !LabelOk(to) {
		return false
	}
	// Integrity runs against secrecy: what arrives may not be vouched for by more than what left.
	return from.secrets().within(to.secrets()) && to.vouchers().within(from.vouchers())
}

// LabelJoin is the label of what comes of two.
func LabelJoin(a Label, b Label) Label {
	if !LabelOk(a) || !LabelOk(b) {
		return Label{}
	}
	// Only who vouches for both parts vouches for what is made of them.
	return Label{
		Secret: (a.secrets() | b.secrets()).sum(),
		Vouch:  (a.vouchers() & b.vouchers()).sum(),
	}
}

// LabelMeet is the label of what may flow to both.
func LabelMeet(a Label, b Label) Label {
	if !LabelOk(a) || !LabelOk(b) {
		return Label{}
	}
	// To flow to both, it must be vouched for by all who vouch for either.
	return Label{
		Secret: (a.secrets() & b.secrets()).sum(),
		Vouch:  (a.vouchers() | b.vouchers()).sum(),
	}
}

// LabelText is the text of a label.
func LabelText(l Label) string {
	if !LabelOk(l) {
		return ""
	}
	return strconv.Itoa(l.Secret) + "/" + strconv.Itoa(l.Vouch)
}

// LabelRead is the label of a text.
func LabelRead(text string) (Label, bool) {
	// There are few labels, and comparing with their texts admits no other spelling of one.
	for secret := range LabelMax + 1 {
		for vouch := range LabelMax + 1 {
			l := Label{Secret: secret, Vouch: vouch}
			if LabelText(l) == text {
				return l, true
			}
		}
	}
	return Label{}, false
}

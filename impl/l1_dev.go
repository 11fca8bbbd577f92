package impl

import (
	"strconv"
	"strings"
)

// DevArg is an operand: a device, a whole number, a decimal number or a word for one.
type DevArg struct {
	Kind int
	N    int
	P    int
}

// Kinds of operands.
const (
	DevX = iota + 1
	DevY
	DevM
	DevS
	DevE
	DevG
	DevT
	DevC
	DevD
	DevR
	DevInt
	DevDec
	DevWord
)

// Bounds of operands.
const (
	DevMaxInt = 32767
	DevMaxDec = 999999999
	DevMaxP   = 6
)

// devMinInt is one further from 0 than DevMaxInt, as in a machine word.
const devMinInt = -DevMaxInt - 1

// devRow is what is known of a kind; letter and count are of devices alone.
type devRow struct {
	letter string
	count  int
	bit    bool
	whole  bool
	real   bool
}

// devRows has the row of each kind at its number; no kind has the number 0.
var devRows = [...]devRow{
	{"", 0, false, false, false},
	{"X", 32, true, false, false},
	{"Y", 32, true, false, false},
	{"M", 64, true, false, false},
	{"S", 16, true, false, false},
	{"E", 32, false, false, false},
	{"G", 5, true, false, false},
	{"T", 16, true, true, false},
	{"C", 16, true, true, false},
	{"D", 32, false, true, false},
	{"R", 16, false, false, true},
	{"", 0, false, true, false},
	{"", 0, false, false, true},
	{"", 0, false, false, true},
}

// devWords has the words in the order of N.
var devWords = [...]string{"nan", "inf", "-inf", "-0.0"}

// devRowOf is the row of a kind, and an empty one for any other number.
func devRowOf(kind int) devRow {
	if kind < 0 || kind >= len(devRows) {
		return devRow{}
	}
	return devRows[kind]
}

// DevSize is how many devices of a kind there are.
func DevSize(kind int) int { return devRowOf(kind).count }

// DevLetter is the letter of a kind of device.
func DevLetter(kind int) string { return devRowOf(kind).letter }

// DevOk says whether an operand is one.
func DevOk(a DevArg) bool {
	switch a.Kind {
	case DevInt:
		return a.P == 0 && a.N >= devMinInt && a.N <= DevMaxInt
	case DevDec:
		return devDecOk(a.N, a.P)
	case DevWord:
		return a.P == 0 && a.N >= 0 && a.N < len(devWords)
	}
	// What is no device has the size 0, so that no N is below it.
	return a.P == 0 && a.N >= 0 && a.N < DevSize(a.Kind)
}

// devDecOk lets each decimal number be written in one way alone: a 0 at its end stands only where the point needs a digit behind it.
func devDecOk(n int, p int) bool {
	if n < -DevMaxDec || n > DevMaxDec || p < 1 || p > DevMaxP {
		return false
	}
	return p == 1 || n%10 != 0
}

// DevIsBit says whether an operand may be asked for a bit.
func DevIsBit(a DevArg) bool { return DevOk(a) && devRowOf(a.Kind).bit }

// DevIsWhole says whether an operand may be asked for a whole number.
func DevIsWhole(a DevArg) bool { return DevOk(a) && devRowOf(a.Kind).whole }

// DevIsReal says whether an operand may be asked for a real number.
func DevIsReal(a DevArg) bool { return DevOk(a) && devRowOf(a.Kind).real }

// DevText writes an operand.
func DevText(a DevArg) string {
	if !DevOk(a) {
		return ""
	}
	switch a.Kind {
	case DevInt:
		return strconv.Itoa(a.N)
	case DevDec:
		return devDecText(a.N, a.P)
	case DevWord:
		return devWords[a.N]
	}
	return DevLetter(a.Kind) + strconv.Itoa(a.N)
}

// devDecText takes the sign off first, as the zeros go between it and the digits.
func devDecText(n int, p int) string {
	sign := ""
	if n < 0 {
		sign, n = "-", -n
	}
	digits := strconv.Itoa(n)
	if missing := p + 1 - len(digits); missing > 0 {
		digits = strings.Repeat("0", missing) + digits
	}
	point := len(digits) - p
	return sign + digits[:point] + "." + digits[point:]
}

// DevRead reads an operand. Writing the guess again refuses every other way to write it: needless zeros and signs, or digits that are not there.
func DevRead(text string) (DevArg, bool) {
	a, ok := devGuess(text)
	if !ok || !DevOk(a) || DevText(a) != text {
		return DevArg{}, false
	}
	return a, true
}

// devGuess is the one operand that may have this text. The words come first, as one of them looks like a number.
func devGuess(text string) (DevArg, bool) {
	for n := range devWords {
		if devWords[n] == text {
			return DevArg{Kind: DevWord, N: n}, true
		}
	}
	for kind := DevX; kind <= DevR; kind++ {
		if digits, found := strings.CutPrefix(text, DevLetter(kind)); found {
			a, ok := devNumber(digits)
			return DevArg{Kind: kind, N: a.N, P: a.P}, ok
		}
	}
	return devNumber(text)
}

// devNumber is the number that a text of digits, with a sign and a point or not, comes to; it is not ok if another rune is there, or more digits than any operand has.
func devNumber(text string) (DevArg, bool) {
	a := DevArg{Kind: DevInt}
	sign := 1
scan:
	for at, r := range text {
		switch {
		case r == '-' && at == 0:
			sign = -1
			continue scan
		case r == '.' && a.Kind == DevInt:
			a.Kind = DevDec
			continue scan
		case r < '0' || r > '9' || a.N > DevMaxDec/10:
			return DevArg{}, false
		}
		a.N = a.N*10 + int(r-'0')
		if a.Kind == DevDec {
			a.P++
		}
	}
	a.N *= sign
	return a, true
}

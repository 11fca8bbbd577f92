package tests

import (
	"fmt"
	"math"
	"math/big"
	"strings"
	"testing"

	"loop.example/stilway/impl"
)

// kindRow is a row of the document's table of kinds, told here once more so that the program's own table is not held against itself.
type kindRow struct {
	kind             int
	letter           string
	count            int
	bit, whole, real bool
}

var kindRows = []kindRow{
	{1, "X", 32, true, false, false},
	{2, "Y", 32, true, false, false},
	{3, "M", 64, true, false, false},
	{4, "S", 16, true, false, false},
	{5, "E", 32, false, false, false},
	{6, "G", 5, true, false, false},
	{7, "T", 16, true, true, false},
	{8, "C", 16, true, true, false},
	{9, "D", 32, false, true, false},
	{10, "R", 16, false, false, true},
	{11, "", 0, false, true, false},
	{12, "", 0, false, false, true},
	{13, "", 0, false, false, true},
}

var notKinds = []int{math.MinInt, -1000, -13, -1, 0, 14, 15, 1000, math.MaxInt}

var words = []string{"nan", "inf", "-inf", "-0.0"}

func dec(n, p int) impl.DevArg { return impl.DevArg{Kind: 12, N: n, P: p} }

// decText writes a decimal number by a division of big numbers, which is not the program's way.
func decText(n, p int) string {
	below := new(big.Int).Exp(big.NewInt(10), big.NewInt(int64(p)), nil)
	return new(big.Rat).SetFrac(big.NewInt(int64(n)), below).FloatString(p)
}

// decNumbers are numerators at the edges, at every power of ten, and some between.
func decNumbers() []int {
	out := []int{0, 25, 123456789, 900000009, 999999990, 999999998, 999999999}
	for n := 1; n <= 999999999; n *= 10 {
		out = append(out, n, n-1, n+1, 5*n, 5*n+1, 9*n)
	}
	for n := 1; n < 3000; n++ {
		out = append(out, n)
	}
	for _, n := range out {
		if n != 0 {
			out = append(out, -n)
		}
	}
	return out
}

// okOperands are the operands that the document calls ok, by their texts: all of them, but for decimal numbers, of which there are too many.
func okOperands() map[string]impl.DevArg {
	out := map[string]impl.DevArg{}
	for _, k := range kindRows {
		for n := 0; n < k.count; n++ {
			out[fmt.Sprintf("%s%d", k.letter, n)] = impl.DevArg{Kind: k.kind, N: n}
		}
	}
	for n := -32768; n <= 32767; n++ {
		out[fmt.Sprintf("%d", n)] = impl.DevArg{Kind: 11, N: n}
	}
	for _, n := range decNumbers() {
		for p := 1; p <= 6; p++ {
			if p == 1 || n%10 != 0 {
				out[decText(n, p)] = dec(n, p)
			}
		}
	}
	for n, w := range words {
		out[w] = impl.DevArg{Kind: 13, N: n}
	}
	return out
}

// badOperands are one beyond each edge, and further off.
func badOperands() []impl.DevArg {
	out := []impl.DevArg{{}}
	for _, kind := range notKinds {
		out = append(out, impl.DevArg{Kind: kind}, impl.DevArg{Kind: kind, N: 1}, impl.DevArg{Kind: kind, N: 1, P: 1})
	}
	for _, k := range kindRows[:10] {
		for _, n := range []int{math.MinInt, -1, k.count, k.count + 1, math.MaxInt} {
			out = append(out, impl.DevArg{Kind: k.kind, N: n})
		}
	}
	for _, n := range []int{math.MinInt, -32769, 32768, math.MaxInt} {
		out = append(out, impl.DevArg{Kind: 11, N: n})
	}
	for _, n := range []int{math.MinInt, -1, 4, math.MaxInt} {
		out = append(out, impl.DevArg{Kind: 13, N: n})
	}
	for _, k := range kindRows {
		for _, p := range []int{math.MinInt, -1, 1, 2, 6, math.MaxInt} {
			if k.kind != 12 {
				out = append(out, impl.DevArg{Kind: k.kind, N: 1, P: p}, impl.DevArg{Kind: k.kind, P: p})
			}
		}
	}
	return append(out, badDecimals()...)
}

func badDecimals() []impl.DevArg {
	var out []impl.DevArg
	for p := 1; p <= 6; p++ {
		for _, n := range []int{math.MinInt, -1000000001, -1000000000, 1000000000, 1000000001, math.MaxInt} {
			out = append(out, dec(n, p))
		}
	}
	for p := 2; p <= 6; p++ {
		for _, n := range []int{0, 10, -10, 500, -999999990, 999999990} {
			out = append(out, dec(n, p))
		}
	}
	for _, p := range []int{math.MinInt, -1, 0, 7, 8, math.MaxInt} {
		for _, n := range []int{0, 1, -5, 10, 999999999} {
			out = append(out, dec(n, p))
		}
	}
	return out
}

func wantRead(t *testing.T, text string, want impl.DevArg, wantOk bool) {
	t.Helper()
	if got, ok := impl.DevRead(text); got != want || ok != wantOk {
		t.Errorf("DevRead(%q) = %v %v, not %v %v", text, got, ok, want, wantOk)
	}
}

func TestDevConstants(t *testing.T) {
	got := []int{impl.DevX, impl.DevY, impl.DevM, impl.DevS, impl.DevE, impl.DevG, impl.DevT, impl.DevC, impl.DevD, impl.DevR, impl.DevInt, impl.DevDec, impl.DevWord}
	for i, kind := range got {
		if kind != i+1 {
			t.Errorf("kind %d is %d", i+1, kind)
		}
	}
	if impl.DevMaxInt != 32767 || impl.DevMaxDec != 999999999 || impl.DevMaxP != 6 {
		t.Error("bounds")
	}
}

func TestDevSizeAndLetter(t *testing.T) {
	for _, k := range kindRows {
		if n := impl.DevSize(k.kind); n != k.count {
			t.Errorf("DevSize(%d) = %d", k.kind, n)
		}
		if s := impl.DevLetter(k.kind); s != k.letter {
			t.Errorf("DevLetter(%d) = %q", k.kind, s)
		}
	}
	for _, kind := range notKinds {
		if impl.DevSize(kind) != 0 || impl.DevLetter(kind) != "" {
			t.Errorf("kind %d: %d %q", kind, impl.DevSize(kind), impl.DevLetter(kind))
		}
	}
}

// Promise 1, from the operand to its text and back.
func TestPromise1Written(t *testing.T) {
	for text, a := range okOperands() {
		if !impl.DevOk(a) {
			t.Errorf("DevOk(%v) is false", a)
		}
		if got := impl.DevText(a); got != text {
			t.Errorf("DevText(%v) = %q, not %q", a, got, text)
		}
		wantRead(t, text, a, true)
	}
	for _, a := range badOperands() {
		if impl.DevOk(a) {
			t.Errorf("DevOk(%v) is true", a)
		}
		if got := impl.DevText(a); got != "" {
			t.Errorf("DevText(%v) = %q", a, got)
		}
	}
}

// Promise 1, at the edges that the document names.
func TestPromise1Edges(t *testing.T) {
	for text, a := range map[string]impl.DevArg{
		"X0": {Kind: 1}, "X31": {Kind: 1, N: 31}, "Y31": {Kind: 2, N: 31}, "M63": {Kind: 3, N: 63}, "S15": {Kind: 4, N: 15},
		"E31": {Kind: 5, N: 31}, "G4": {Kind: 6, N: 4}, "T15": {Kind: 7, N: 15}, "C15": {Kind: 8, N: 15}, "D31": {Kind: 9, N: 31}, "R15": {Kind: 10, N: 15},
		"0": {Kind: 11}, "-1": {Kind: 11, N: -1}, "32767": {Kind: 11, N: 32767}, "-32768": {Kind: 11, N: -32768},
		"0.0": dec(0, 1), "5.0": dec(50, 1), "-1.0": dec(-10, 1), "0.5": dec(5, 1), "-0.5": dec(-5, 1), "0.05": dec(5, 2),
		"0.000001": dec(1, 6), "-0.000001": dec(-1, 6), "1.000001": dec(1000001, 6), "99999999.0": dec(999999990, 1),
		"99999999.9": dec(999999999, 1), "-99999999.9": dec(-999999999, 1), "999.999999": dec(999999999, 6), "-999.999999": dec(-999999999, 6),
		"nan": {Kind: 13}, "inf": {Kind: 13, N: 1}, "-inf": {Kind: 13, N: 2}, "-0.0": {Kind: 13, N: 3},
	} {
		if got := impl.DevText(a); got != text {
			t.Errorf("DevText(%v) = %q, not %q", a, got, text)
		}
		wantRead(t, text, a, true)
	}
}

// Promise 1, of texts that are none of an operand.
func TestPromise1WrongTexts(t *testing.T) {
	for _, text := range []string{
		"", " ", "-", "+", ".", "-.", "X", "XX0", "x0", "Q1", "X-1", "X-0", "X+1", "X01", "X00", "X 1", "X1 ", " X1", "X1.", "X1.0", "X0.0", "X.", "Xnan",
		"X32", "Y32", "M64", "S16", "E32", "G5", "T16", "C16", "D32", "R16", "X4294967296", "X18446744073709551616",
		"+5", "-0", "00", "01", "-01", "--1", "1-", "5-5", "32768", "-32769", "65536", "4294967296", "-4294967296", "18446744073709551616",
		"5.", "-5.", ".5", "-.5", "+0.5", "0.50", "0.00", "-0.00", "00.5", "-00.5", "1.2.3", "1..2", "0.1-", "1.-2", "0.-1", "1,5", "1e3", "0x1", "1_0",
		"0.0000001", "1.1234567", "1.0000000", "999999999.0", "100000000.0", "1000000000.1", "9999.999999", "-9999.999999", "18446744073709551616.5",
		"NaN", "Inf", "+inf", "-nan", "infinity", "nan ", " nan", "--inf", "-0.0 ", "na", "in", "-in", "nann",
		"X1\x00", "\x00", "\xff", "X\xff", "5\xff", "\xff5", "X\u0661", "\u0661", "\uff15", "0.\uff15", "\u22125", "\u0425" + "1", "1\n", "\t1", "0.5\n",
		strings.Repeat("0", 5000), "0." + strings.Repeat("0", 5000), "X" + strings.Repeat("9", 5000), "-" + strings.Repeat("1", 5000) + ".1", strings.Repeat("-", 5000),
	} {
		wantRead(t, text, impl.DevArg{}, false)
	}
}

// Promise 1, of every short text over some letters: it is read just if it is the text of an operand.
func TestPromise1ShortTexts(t *testing.T) {
	known := okOperands()
	for n := -9999; n <= 9999; n++ {
		for p := 1; p <= 4; p++ {
			if p == 1 || n%10 != 0 {
				known[decText(n, p)] = dec(n, p)
			}
		}
	}
	letters := []string{"X", "G", "M", "0", "1", "3", "6", "-", "+", ".", " ", "\xff"}
	var grow func(text string, left int)
	grow = func(text string, left int) {
		a, ok := known[text]
		wantRead(t, text, a, ok)
		if left > 0 {
			for _, l := range letters {
				grow(text+l, left-1)
			}
		}
	}
	grow("", 5)
}

// Promise 1, of texts that are one byte away from one that is read.
func TestPromise1OneByteOff(t *testing.T) {
	for _, text := range []string{"X0", "X31", "M63", "-32768", "32767", "0", "0.0", "-0.5", "0.000025", "-99999999.9", "999.999999", "nan", "-inf", "-0.0"} {
		for at := 0; at <= len(text); at++ {
			for b := 0; b < 256; b++ {
				readIsWritten(t, text[:at]+string([]byte{byte(b)})+text[at:])
				if at < len(text) {
					readIsWritten(t, text[:at]+string([]byte{byte(b)})+text[at+1:])
				}
			}
			if at < len(text) {
				readIsWritten(t, text[:at]+text[at+1:])
			}
		}
	}
}

func readIsWritten(t *testing.T, text string) {
	t.Helper()
	a, ok := impl.DevRead(text)
	if ok && (!impl.DevOk(a) || impl.DevText(a) != text) {
		t.Errorf("%q is read as %v, which is written %q", text, a, impl.DevText(a))
	}
	if !ok && a != (impl.DevArg{}) {
		t.Errorf("%q is not read, but answers %v", text, a)
	}
}

// Promise 2: what an operand is asked for hangs on its kind alone, if it is ok.
func TestPromise2(t *testing.T) {
	for text, a := range okOperands() {
		k := kindRows[a.Kind-1]
		if impl.DevIsBit(a) != k.bit || impl.DevIsWhole(a) != k.whole || impl.DevIsReal(a) != k.real {
			t.Errorf("%s: bit %v, whole %v, real %v", text, impl.DevIsBit(a), impl.DevIsWhole(a), impl.DevIsReal(a))
		}
	}
	for _, a := range badOperands() {
		if impl.DevIsBit(a) || impl.DevIsWhole(a) || impl.DevIsReal(a) {
			t.Errorf("%v is not ok, but asked", a)
		}
	}
}

// Promise 2, in its own words: T and C for two, E for none, all others for one.
func TestPromise2HowMany(t *testing.T) {
	for text, a := range okOperands() {
		asked := 0
		for _, is := range []func(impl.DevArg) bool{impl.DevIsBit, impl.DevIsWhole, impl.DevIsReal} {
			if is(a) {
				asked++
			}
		}
		want := 1
		switch a.Kind {
		case impl.DevE:
			want = 0
		case impl.DevT, impl.DevC:
			want = 2
		}
		if asked != want {
			t.Errorf("%s is asked for %d", text, asked)
		}
	}
}

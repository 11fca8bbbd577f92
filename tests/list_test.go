package tests

import (
	"maps"
	"math"
	"reflect"
	"slices"
	"strings"
	"testing"

	"loop.example/stilway/impl"
)

func TestListConstants(t *testing.T) {
	codes := []int{impl.ListLd, impl.ListAnd, impl.ListOr, impl.ListAnb, impl.ListOrb, impl.ListInv, impl.ListMps, impl.ListMrd, impl.ListMpp, impl.ListCoil, impl.ListEnd}
	for i, code := range codes {
		if code != i+1 {
			t.Errorf("instruction %d is %d", i+1, code)
		}
	}
	if faults := []int{impl.ListLong, impl.ListBad, impl.ListMany}; !slices.Equal(faults, []int{1, 2, 3}) {
		t.Errorf("faults %v", faults)
	}
	if impl.ListMaxList != 1000 || impl.ListMaxText != 50000 {
		t.Errorf("limits %d, %d", impl.ListMaxList, impl.ListMaxText)
	}
}

func TestListWord(t *testing.T) {
	for _, row := range codeRows {
		if got := impl.ListWord(row.code); got != row.word {
			t.Errorf("ListWord(%d) = %q, not %q", row.code, got, row.word)
		}
	}
	for _, code := range notCodes {
		if got := impl.ListWord(code); got != "" {
			t.Errorf("ListWord(%d) = %q", code, got)
		}
	}
}

// wantInst holds what is said of one instruction against the second telling.
func wantInst(t *testing.T, i impl.Inst) {
	t.Helper()
	ok, line := slowOk(i), slowLine(i)
	if got := impl.ListOk(i); got != ok {
		t.Errorf("ListOk(%v) = %v", i, got)
	}
	if got := impl.ListLine(i); got != line {
		t.Errorf("ListLine(%v) = %q, not %q", i, got, line)
	}
	if got, want := impl.ListText([]impl.Inst{i}), slowText([]impl.Inst{i}); got != want {
		t.Errorf("ListText of %v = %q, not %q", i, got, want)
	}
}

// Every Code and numbers that are none, with every Op and operands that are ok or not.
func TestListOkAndLine(t *testing.T) {
	var codes []int
	for _, row := range codeRows {
		codes = append(codes, row.code)
	}
	ones := slices.Concat(badElems, poolElems())
	for _, op := range notOps {
		ones = append(ones, impl.Elem{Op: op}, impl.Elem{Op: op, Args: []impl.DevArg{}}, impl.Elem{Op: op, Args: []impl.DevArg{{Kind: 1}}})
	}
	for _, row := range opRows {
		for n := range 3 {
			tuples(wholePool(), n, func(args []impl.DevArg) { ones = append(ones, impl.Elem{Op: row.op, Args: args}) })
		}
	}
	for _, one := range ones {
		for _, code := range codes {
			wantInst(t, impl.Inst{Code: code, One: one})
		}
		wantInst(t, impl.Inst{One: one})
		wantInst(t, impl.Inst{Code: 12, One: one})
	}
	for _, code := range notCodes {
		for _, one := range []impl.Elem{{}, {Args: []impl.DevArg{}}, elem("X0"), elem("out:Y0"), {Op: 1}} {
			wantInst(t, impl.Inst{Code: code, One: one})
		}
	}
}

// The edges that the chapter names, written out.
func TestListOkEdges(t *testing.T) {
	x, out := elem("X0"), elem("out:Y0")
	beyond := impl.Elem{Op: impl.ElemOpen, Args: []impl.DevArg{{Kind: impl.DevX, N: 32}}}
	for _, c := range []struct {
		i    impl.Inst
		line string
	}{
		{impl.Inst{Code: impl.ListLd, One: elem("/X1")}, "ld /X1"},
		{impl.Inst{Code: impl.ListAnd, One: elem("D1<5")}, "and D1<5"},
		{impl.Inst{Code: impl.ListOr, One: elem("-T1:E6")}, "or -T1:E6"},
		{impl.Inst{Code: impl.ListCoil, One: out}, "coil out:Y0"},
		{impl.Inst{Code: impl.ListCoil, One: elem("add:R1,-0.0,nan")}, "coil add:R1,-0.0,nan"},
		{impl.Inst{Code: impl.ListAnb}, "anb"},
		{impl.Inst{Code: impl.ListEnd, One: impl.Elem{Args: []impl.DevArg{}}}, "end"},
		{impl.Inst{Code: impl.ListEnd, One: impl.Elem{Args: make([]impl.DevArg, 1)[:0]}}, "end"},
		{impl.Inst{}, ""},
		{impl.Inst{Code: impl.ListLd}, ""},
		{impl.Inst{Code: impl.ListAnd}, ""},
		{impl.Inst{Code: impl.ListOr}, ""},
		{impl.Inst{Code: impl.ListCoil}, ""},
		{impl.Inst{Code: impl.ListLd, One: out}, ""},
		{impl.Inst{Code: impl.ListAnd, One: out}, ""},
		{impl.Inst{Code: impl.ListOr, One: out}, ""},
		{impl.Inst{Code: impl.ListCoil, One: x}, ""},
		{impl.Inst{Code: impl.ListLd, One: beyond}, ""},
		{impl.Inst{Code: impl.ListCoil, One: impl.Elem{Op: impl.ElemOut}}, ""},
		{impl.Inst{Code: impl.ListInv, One: impl.Elem{Op: 1}}, ""},
		{impl.Inst{Code: impl.ListInv, One: impl.Elem{Args: []impl.DevArg{{}}}}, ""},
		{impl.Inst{Code: impl.ListMps, One: x}, ""},
		{impl.Inst{Code: impl.ListEnd, One: out}, ""},
		{impl.Inst{One: x}, ""},
		{impl.Inst{Code: 12}, ""},
		{impl.Inst{Code: -1}, ""},
		{impl.Inst{Code: math.MinInt, One: x}, ""},
	} {
		if ok, line := impl.ListOk(c.i), impl.ListLine(c.i); ok != (c.line != "") || line != c.line {
			t.Errorf("%v: %v %q, not %q", c.i, ok, line, c.line)
		}
		wantInst(t, c.i)
	}
}

// wantSame holds two lists against each other, both ways.
func wantSame(t *testing.T, a, b []impl.Inst) {
	t.Helper()
	want := shownList(a) == shownList(b)
	if impl.ListSame(a, b) != want || impl.ListSame(b, a) != want {
		t.Errorf("ListSame of %.500s and %.500s is not %v", shownList(a), shownList(b), want)
	}
}

// Lists that differ in one part alone: in length, in a Code, in an Op, in one number of an operand; ok or not.
func TestListSame(t *testing.T) {
	for _, list := range [][]impl.Inst{
		nil,
		{{}},
		{{}, {}},
		listOf("ld X0"),
		listOf("ld X0", "ld X0"),
		listOf("ld /X1", "and D1<5", "anb", "or +X4:E5", "mps", "coil add:D1,D2,-3", "mpp", "coil out:Y0", "end"),
		{{Code: 99, One: elem("X0")}, {Code: -1, One: impl.Elem{Op: -1, Args: []impl.DevArg{{Kind: -1, N: -1, P: -1}}}}},
	} {
		wantSame(t, list, list)
		wantSame(t, list, copiedList(list))
		others := changes(list, copiedList)
		for i, other := range others {
			wantSame(t, list, other)
			if impl.ListSame(list, other) || impl.ListSame(other, list) {
				t.Errorf("%v is the same as %v", list, other)
			}
			wantSame(t, other, copiedList(other))
			for _, third := range others[:i] {
				wantSame(t, other, third)
			}
		}
	}
	empty := []impl.Inst{}
	if !impl.ListSame(nil, nil) || !impl.ListSame(nil, empty) || !impl.ListSame(empty, nil) {
		t.Error("the empty list is not the same as itself")
	}
	if !impl.ListSame([]impl.Inst{{One: impl.Elem{Args: []impl.DevArg{}}}}, []impl.Inst{{}}) {
		t.Error("an instruction with an empty list of operands is not the same as one with none")
	}
}

// The order of instructions counts, and lists of any length are held against each other.
func TestListSameMade(t *testing.T) {
	for _, bad := range []int{0, 300} {
		m := newMaker(uint64(bad)+31, bad)
		var all [][]impl.Inst
		for range 60 {
			all = append(all, m.list(m.below(4)))
		}
		all = append(all, m.list(1000), m.list(1001), m.list(3000))
		for i, a := range all {
			wantSame(t, a, copiedList(a))
			for _, b := range all[:i] {
				wantSame(t, a, b)
			}
			for at := range a[:min(len(a), 20)] {
				other := copiedList(a)
				other[0], other[at] = other[at], other[0]
				wantSame(t, a, other)
				wantSame(t, a, a[:at])
				wantSame(t, a[at:], a)
			}
		}
	}
	long := slices.Repeat(listOf("inv"), 5000)
	wantSame(t, long, slices.Concat(long[1:], listOf("end")))
}

// wantPromise10 is of a list of at most 1000 instructions that are ok.
func wantPromise10(t *testing.T, list []impl.Inst) {
	t.Helper()
	if len(list) > 1000 || !everyOk(list) {
		t.Fatalf("not of the promise: %.500s", shownList(list))
	}
	text := impl.ListText(list)
	if want := slowText(list); text != want {
		t.Errorf("ListText of %.500s = %.500q, not %.500q", shownList(list), text, want)
	}
	read, fault := impl.ListParse(text)
	if fault != (impl.ListFault{}) || !impl.ListSame(read, list) || shownList(read) != shownList(list) {
		t.Errorf("%.500q is read as %.500s, %v", text, shownList(read), fault)
	}
	if again := impl.ListText(read); again != text {
		t.Errorf("%.500q is written once more as %.500q", text, again)
	}
	wantPromise11(t, text)
}

// Promise 10, of every Code with every Op and all operands of the pool, one by one and one behind the other.
func TestPromise10EveryInstruction(t *testing.T) {
	all := poolInsts()
	codes, ops := map[int]bool{}, map[int]bool{}
	for _, i := range all {
		codes[i.Code], ops[i.One.Op] = true, true
		wantPromise10(t, []impl.Inst{i})
	}
	if len(codes) != len(codeRows) || len(ops) != len(opRows)+1 {
		t.Errorf("only %d Codes and %d Ops", len(codes), len(ops))
	}
	for list := range slices.Chunk(all, 1000) {
		wantPromise10(t, list)
	}
}

// Promise 10, of each operand there is, decimal numbers apart, of which there are some.
func TestPromise10EveryOperand(t *testing.T) {
	var list []impl.Inst
	operands := okOperands()
	for _, text := range slices.Sorted(maps.Keys(operands)) {
		a := operands[text]
		one := impl.Elem{Op: impl.ElemSame, Args: []impl.DevArg{a, a}}
		if impl.DevIsBit(a) {
			one = impl.Elem{Op: impl.ElemShut, Args: []impl.DevArg{a}}
		}
		if a.Kind != impl.DevE && a.N%7 == 0 {
			list = append(list, impl.Inst{Code: impl.ListOr, One: one})
		}
	}
	for part := range slices.Chunk(list, 1000) {
		wantPromise10(t, part)
	}
}

// Promise 10, of all short lists of some instructions.
func TestPromise10Short(t *testing.T) {
	some := listOf("ld X0", "ld /X0", "and D1<D2", "or +X4:E5", "anb", "orb", "inv", "mps", "mrd", "mpp", "coil out:Y0", "coil timer:T1,50", "end")
	texts := map[string]bool{}
	for n := range 4 {
		tuples(some, n, func(list []impl.Inst) {
			wantPromise10(t, list)
			texts[impl.ListText(list)] = true
		})
	}
	if len(texts) != 1+13+13*13+13*13*13 {
		t.Errorf("only %d texts", len(texts))
	}
}

// Promise 10, of lists made by dice, of all lengths there may be.
func TestPromise10Made(t *testing.T) {
	m := newMaker(41, 0)
	for long := range 120 {
		wantPromise10(t, m.list(long))
	}
	for _, long := range []int{500, 998, 999, 1000} {
		wantPromise10(t, m.list(long))
	}
}

// Promise 10, at the most instructions there may be; one more is not written. The longest texts of all fit too.
func TestPromise10Limit(t *testing.T) {
	for _, line := range []string{"inv", "ld X0", "coil add:R15,-999.999999,-99999999.9"} {
		list := slices.Repeat(listOf(line), 1001)
		wantPromise10(t, list[:999])
		wantPromise10(t, list[:1000])
		if text := impl.ListText(list[:1000]); len(text) != 1000*(len(line)+1) || len(text) > 50000 {
			t.Errorf("%d bytes", len(text))
		}
		for _, many := range [][]impl.Inst{list, slices.Concat(list, list), slices.Concat(list[:1000], []impl.Inst{{}}), make([]impl.Inst, 100000)} {
			if text := impl.ListText(many); text != "" {
				t.Errorf("a list of %d is written, %d bytes", len(many), len(text))
			}
		}
	}
	if text := impl.ListText(nil) + impl.ListText([]impl.Inst{}); text != "" {
		t.Errorf("the empty list is written %q", text)
	}
	wantPromise10(t, nil)
	wantPromise10(t, []impl.Inst{})
}

// No line is longer than the longest of the limit's test.
func TestListLongestLine(t *testing.T) {
	longest := 0
	for text, a := range okOperands() {
		if impl.DevIsReal(a) {
			longest = max(longest, len(text))
		}
	}
	if longest != len("-999.999999") {
		t.Errorf("a real operand has %d bytes", longest)
	}
	for _, i := range poolInsts() {
		if line := impl.ListLine(i); len(line) > len("coil add:R15,-999.999999,-99999999.9") {
			t.Errorf("%q", line)
		}
	}
}

// What is not ok anywhere in a list leaves the list without a text.
func TestListTextWrong(t *testing.T) {
	good := listOf("ld X0", "anb", "coil out:Y0", "end")
	for _, bad := range []impl.Inst{{}, {Code: 12}, {Code: impl.ListLd}, {Code: impl.ListLd, One: elem("out:Y0")}, {Code: impl.ListCoil, One: elem("X0")}, {Code: impl.ListEnd, One: elem("X0")}, {Code: impl.ListAnd, One: badElems[5]}} {
		for at := range len(good) + 1 {
			list := slices.Insert(slices.Clone(good), at, bad)
			if text := impl.ListText(list); text != "" {
				t.Errorf("%v is written %q", list, text)
			}
		}
		for _, at := range []int{0, 500, 999} {
			list := slices.Repeat(good, 250)
			list[at] = bad
			if text := impl.ListText(list); text != "" {
				t.Errorf("a list of 1000 with %v at %d is written, %d bytes", bad, at, len(text))
			}
		}
	}
	for _, bad := range []int{20, 300} {
		m := newMaker(uint64(bad)+51, bad)
		for range 400 {
			list := m.list(m.below(20))
			if got, want := impl.ListText(list), slowText(list); got != want {
				t.Errorf("ListText of %v = %q, not %q", list, got, want)
			}
		}
	}
}

// wantPromise11 holds what is read of a text against the promise's own words, and against the second telling.
func wantPromise11(t *testing.T, text string) {
	t.Helper()
	list, fault := impl.ListParse(text)
	want, wantFault := slowParse(text)
	if shownList(list) != shownList(want) || fault != wantFault {
		t.Errorf("ListParse(%.500q) = %.500s %v, not %.500s %v", text, shownList(list), fault, shownList(want), wantFault)
		return
	}
	lines := linesOf(text)
	if fault != (impl.ListFault{}) {
		wantTold(t, text, lines, fault)
		return
	}
	var read []string
	for _, line := range lines {
		if hasWords(line) {
			read = append(read, line)
		}
	}
	if len(text) > 50000 || len(list) > 1000 || len(list) != len(read) {
		t.Errorf("%d bytes with %d lines of words are read as %d instructions", len(text), len(read), len(list))
	}
	for at, i := range list {
		if plain := strings.Join(strings.FieldsFunc(read[at], func(r rune) bool { return r == ' ' }), " "); !impl.ListOk(i) || impl.ListLine(i) != plain {
			t.Errorf("%q is read as %v", plain, i)
		}
	}
	// Only the last newline may be put in.
	if short := impl.ListText(list); len(short) > len(text)+1 {
		t.Errorf("%.500q is written as more: %.500q", text, short)
	}
}

// wantTold holds a fault against the lines that it is told of.
func wantTold(t *testing.T, text string, lines []string, fault impl.ListFault) {
	t.Helper()
	if fault.Code == impl.ListLong {
		if fault.Line != 0 || len(text) <= 50000 {
			t.Errorf("%d bytes: %v", len(text), fault)
		}
		return
	}
	if len(text) > 50000 || fault.Line < 1 || fault.Line > len(lines) || !hasWords(lines[fault.Line-1]) {
		t.Errorf("%.500q: no line to tell of %v", text, fault)
		return
	}
	ahead, wrong := impl.ListParse(strings.Join(lines[:fault.Line-1], "\n"))
	if wrong != (impl.ListFault{}) {
		t.Errorf("%.500q: %v is ahead of %v", text, wrong, fault)
	}
	_, alone := impl.ListParse(lines[fault.Line-1])
	if isBad := alone == (impl.ListFault{Line: 1, Code: 2}); isBad != (fault.Code == 2) || !isBad && (fault.Code != 3 || len(ahead) != 1000) {
		t.Errorf("%.500q: %v, alone %v, with %d ahead of it", text, fault, alone, len(ahead))
	}
}

// wantRefused is of a text that is told a fault of.
func wantRefused(t *testing.T, text string, line, code int) {
	t.Helper()
	list, fault := impl.ListParse(text)
	if len(list) != 0 || fault != (impl.ListFault{Line: line, Code: code}) {
		t.Errorf("ListParse(%.500q) = %.500s %v, not line %d, code %d", text, shownList(list), fault, line, code)
	}
	wantPromise11(t, text)
}

// wantAccepted is of a text that is read as these instructions.
func wantAccepted(t *testing.T, text string, want []impl.Inst) {
	t.Helper()
	list, fault := impl.ListParse(text)
	if fault != (impl.ListFault{}) || shownList(list) != shownList(want) {
		t.Errorf("ListParse(%.500q) = %.500s %v", text, shownList(list), fault)
	}
	wantPromise11(t, text)
}

// Promise 11, of spaces and of lines without words, wherever they may stand.
func TestPromise11Spaces(t *testing.T) {
	two := listOf("ld /X1", "end")
	for _, text := range []string{
		"ld /X1\nend", "ld /X1\nend\n", "ld   /X1\nend", "  ld /X1\nend", "ld /X1  \nend  ", "    ld     /X1     \n     end     \n", "ld /X1\nend \n", "ld /X1\nend\n ",
		"\nld /X1\nend", "\n\n\nld /X1\nend", "   \nld /X1\nend", " \n  \n   \nld /X1\nend\n", "ld /X1\n\nend", "ld /X1\n\n\n\nend\n", "ld /X1\n    \nend", "ld /X1\nend\n\n", "ld /X1\nend\n\n\n\n", "ld /X1\nend\n   ", "ld /X1\nend\n   \n", "\n \nld /X1\n \n\nend\n\n \n",
		strings.Repeat(" ", 20000) + "ld" + strings.Repeat(" ", 20000) + "/X1" + strings.Repeat("\n", 9000) + "end",
	} {
		wantAccepted(t, text, two)
	}
	for _, text := range []string{"", " ", "\n", "\n\n", " \n", "\n ", "   \n   ", strings.Repeat("\n", 50000), strings.Repeat(" ", 50000)} {
		wantAccepted(t, text, nil)
	}
}

// badLines are no instructions, each in its own way.
var badLines = []string{
	"what", "l", "d", "ldd", "lda", "an", "andb", "ands", "nop", "ldX0", "ld/X0", "X0", "/X0", "out:Y0", "out Y0", "out:Y0 coil", "X0 ld", "coilout:Y0", ":", "-", "1", "10", "ld:X0", "ld,X0", "coil:out:Y0", "0", "ldi X0", "out", "set:M1",
	"LD X0", "Ld X0", "lD X0", "AND X0", "Or X0", "INV", "Inv", "END", "End", "eND", "COIL out:Y0", "Coil out:Y0", "coil OUT:Y0", "coil Out:Y0", "ld x0", "ld /x0", "and d1<d2", "move R0,NaN", "coil move:R0,NaN", "\u212ad X0", "l\u0064\u0301 X0", "\uff4c\uff44 X0", "mp\u017f",
	"ld", "and", "or", "coil",
	"anb X0", "orb X0", "inv X0", "mps X0", "mrd X0", "mpp X0", "end X0", "anb out:Y0", "end out:Y0", "end end", "inv inv", "inv end", "mps 0", "mrd .", "mpp ;", "end what", "end #", "anb anb anb", "end 1 2 3 4", "inv \x00",
	"ld X0 X1", "ld X0 X0", "ld X0 ld", "ld ld X0", "ld ld", "ld anb", "ld X0 .", "ld X0 end", "and X0 and X1", "coil out:Y0 out:Y1", "coil out:Y0 end", "coil coil out:Y0", "ld X0 \x00", "or X0 ;",
	"ld out:Y0", "and set:M1", "or reset:T1", "coil X0", "coil /X0", "coil D1<D2", "coil +X0:E1",
	"ld / X0", "ld + X0:E1", "ld +X0 :E1", "ld +X0: E1", "ld +X0 E1", "ld D1 <D2", "ld D1< D2", "ld D1 < D2", "ld D1< =D2", "ld D1D2", "ld D1 D2", "ld +X0E1", "ld +X0", "ld X", "ld X 0", "coil out Y0", "coil out: Y0", "coil out :Y0", "coil outY0", "coil timer:T1 50", "coil timer:T1, 50", "coil timer:T1 ,50", "coil timer:T150", "coil timer:T1", "coil out", "coil out:", "coil add:D1,D2", "coil add:D1, D2, D3", "ld - 5<D1",
	"ld X32", "ld X01", "ld X00", "ld E0", "ld D1", "ld R1", "ld 5", "ld 1<1.0", "ld D1<R1", "ld D1<+5", "ld D1<-0", "ld R1<0.50", "coil out:X0", "coil timer:T1,-1", "coil timer:T1,32768", "coil move:D0,1.0", "coil count:C1,05",
	"ld\tX0", "ld\vX0", "ld\fX0", "ld\rX0", "ld\x00X0", "ld\u00a0X0", "ld\u2003X0", "ld\u3000X0", "ld\u200bX0", "ld\u0085X0", "ld \tX0", "ld\t X0", "ld X0\t", "ld X0 \t", "\tld X0", "\t ld X0", "ld X0\r", "ld X0 \r", "\rld X0", "end\r", "end\t", "\tend", "end\x00", "end;", "end.", "\ufeffend", "\u00a0end", "end\u00a0", "end\u3000", "end\v", "end\f", "\x85end", "end\xa0", "\xff", "\xff\xff", "\x00", "\r", "\t", "\v", "\f", "\u00a0", "\u2003", "\ufeff", " \t ", " \r", "\u2028", "ld\u2028X0", "ld X0\u2028end", "ld X0;end", "ld X0,end", "ld X0\\nend", "ld X0\rend", "// end", "# end", "end // X0", "ld \"X0\"", "ld 'X0'", "(end)", "-end", "+end",
	strings.Repeat("end ", 5000), strings.Repeat("ld", 5000), "ld " + strings.Repeat("X", 5000), "ld X0" + strings.Repeat(" ", 5000) + "X0", "ld X" + strings.Repeat("0", 40000), "coil out:" + strings.Repeat("Y0,", 5000), strings.Repeat("a ", 20000),
}

// Promise 11, of lines that are no instruction, at each place of a text.
func TestPromise11BadLines(t *testing.T) {
	for _, bad := range badLines {
		wantRefused(t, bad, 1, impl.ListBad)
		wantRefused(t, bad+"\n", 1, impl.ListBad)
		wantRefused(t, "  "+bad+"  ", 1, impl.ListBad)
		wantRefused(t, bad+"\nend\n", 1, impl.ListBad)
		wantRefused(t, "\n"+bad, 2, impl.ListBad)
		wantRefused(t, "ld X0\n\n   \n"+bad+"\n\nend\n", 4, impl.ListBad)
		wantRefused(t, "ld X0\ncoil out:Y0\nend\n"+bad, 4, impl.ListBad)
	}
}

// Promise 11, of several faults in one text: the first is told.
func TestPromise11SeveralFaults(t *testing.T) {
	for i, first := range badLines {
		second := badLines[(i*7+3)%len(badLines)]
		if len(first)+len(second) > 40000 {
			continue
		}
		wantRefused(t, first+"\n"+second, 1, impl.ListBad)
		wantRefused(t, "end\n"+first+"\nend\n"+second+"\n", 2, impl.ListBad)
		wantRefused(t, "\n \n\n"+first+"\n\n"+second+"\n"+first+"\n", 4, impl.ListBad)
	}
}

// Promise 11, of each byte between words, at both ends and alone: only a space parts words, only a newline lines.
func TestPromise11EachByte(t *testing.T) {
	for b := range 256 {
		sign := string([]byte{byte(b)})
		for _, text := range []string{sign, "ld" + sign + "X0", "ld " + sign + "X0", "ld" + sign + " X0", "ld " + sign + " X0", sign + "ld X0", "ld X0" + sign, "ld X0" + sign + "end", "end" + sign, sign + "end", " " + sign + " ", "end\n" + sign + "\nend", "end" + sign + "end"} {
			wantPromise11(t, text)
		}
		_, fault := impl.ListParse("ld" + sign + "X0")
		if (fault == impl.ListFault{}) != (sign == " ") {
			t.Errorf("%q between words: %v", sign, fault)
		}
		list, fault := impl.ListParse("end" + sign + "end")
		if (fault == impl.ListFault{} && len(list) == 2) != (sign == "\n") {
			t.Errorf("%q between lines: %v", sign, fault)
		}
		if _, fault := impl.ListParse("end" + sign); (fault == impl.ListFault{}) != (sign == " " || sign == "\n") {
			t.Errorf("%q behind a line: %v", sign, fault)
		}
	}
}

// Promise 11, of all short rows of pieces of texts.
func TestPromise11Pieces(t *testing.T) {
	read := 0
	for n, pieces := range [][]string{
		5: {"ld", "X0", "inv", "coil", "out:Y0", " ", "\n", "\t"},
		7: {"ld", "X0", "end", " ", "\n"},
		9: {"end", " ", "\n"},
	} {
		for k := 0; k <= n && len(pieces) > 0; k++ {
			tuples(pieces, k, func(parts []string) {
				text := strings.Join(parts, "")
				wantPromise11(t, text)
				if _, fault := impl.ListParse(text); fault == (impl.ListFault{}) {
					read++
				}
			})
		}
	}
	if read < 1000 {
		t.Errorf("only %d texts are read", read)
	}
}

// Promise 11, of texts that are one byte away from one that is read.
func TestPromise11OneByteOff(t *testing.T) {
	for _, text := range []string{"ld X0\ncoil out:Y0\nend\n", " or  +X0:E1\n\nanb \nmrd", "and -5<=D1\norb\nmps\ninv\nmpp\n", "coil add:R1,-0.5,nan"} {
		wantPromise11(t, text)
		for at := 0; at <= len(text); at++ {
			wantPromise11(t, text[:at])
			wantPromise11(t, text[at:])
			for b := range 256 {
				sign := string([]byte{byte(b)})
				wantPromise11(t, text[:at]+sign+text[at:])
				if at < len(text) {
					wantPromise11(t, text[:at]+sign+text[at+1:])
				}
			}
			if at < len(text) {
				wantPromise11(t, text[:at]+text[at+1:])
			}
		}
	}
}

// Promise 11, of every word with each contact, coil or none behind it.
func TestPromise11Words(t *testing.T) {
	for _, row := range codeRows {
		wantPromise11(t, row.word)
		for _, op := range opRows {
			for _, operands := range [][]string{{"M1", "E2"}, {"S3"}, {"T4", "50", "C1"}, {"C0", "0"}, {"D6", "-7", "D8"}, {"R9", "-0.5", "nan"}, {"D1", "-inf"}, {"R1", "T2"}} {
				text := formText(op.form, operands...)
				wantPromise11(t, row.word+" "+text)
				wantPromise11(t, row.word+"  "+text+" "+text)
				wantPromise11(t, strings.ToUpper(row.word)+" "+text)
				wantPromise11(t, row.word+text)
				wantPromise11(t, text+" "+row.word)
			}
		}
	}
}

// Promise 11, at the most bytes there may be; one more is too long, whatever it holds.
func TestPromise11Long(t *testing.T) {
	for _, c := range []struct {
		ahead, fill, behind string
		line, code          int
	}{
		{"", " ", "", 0, 0},
		{"", "\n", "", 0, 0},
		{"", " ", "end", 0, 0},
		{"end", " ", "", 0, 0},
		{"ld", " ", "X0", 0, 0},
		{"ld X0", "\n", "end\n", 0, 0},
		{"", "a", "", 1, 2},
		{"\nend\n", "a", "\nend", 3, 2},
		{"ld ", "X", "", 1, 2},
		{"", "\xff", "", 1, 2},
		{"what", " ", "", 1, 2},
		{"what", "\n", "", 1, 2},
		{strings.Repeat("end\n", 1001), " ", "", 1001, 3},
		{strings.Repeat("end\n", 1000) + "what", "\n", "end", 1001, 2},
	} {
		most := c.ahead + strings.Repeat(c.fill, 50000-len(c.ahead)-len(c.behind)) + c.behind
		if len(most) != 50000 {
			t.Fatalf("%d bytes", len(most))
		}
		if _, fault := impl.ListParse(most); fault != (impl.ListFault{Line: c.line, Code: c.code}) {
			t.Errorf("%.20q with %q: %v", c.ahead, c.fill, fault)
		}
		wantPromise11(t, most)
		for _, more := range []string{" ", "\n", "a", "\nend", "\n" + strings.Repeat("what\n", 9000), most} {
			wantRefused(t, most+more, 0, impl.ListLong)
			wantRefused(t, more+most, 0, impl.ListLong)
		}
	}
	// Bytes are counted, not runes.
	wantRefused(t, strings.Repeat("\u00e4", 25000), 1, impl.ListBad)
	wantRefused(t, strings.Repeat("\u00e4", 25001), 0, impl.ListLong)
	wantRefused(t, strings.Repeat(" ", 49000)+strings.Repeat("\u3000", 400), 0, impl.ListLong)
}

// Promise 11, at the most instructions there may be; of a line beyond them that is none it is told that it is none.
func TestPromise11Many(t *testing.T) {
	full := slices.Repeat(listOf("inv"), 1000)
	for _, text := range []string{strings.Repeat("inv\n", 1000), strings.Repeat(" inv \n\n", 1000), strings.Repeat("\n", 30000) + strings.Repeat("inv\n", 1000), strings.Repeat("inv\n", 500) + strings.Repeat(" \n", 10000) + strings.Repeat("inv\n", 500)} {
		wantAccepted(t, text, full)
		wantAccepted(t, strings.TrimSuffix(text, "\n"), full)
		wantAccepted(t, text+"\n  \n \n", full)
		line := strings.Count(text, "\n")
		for _, more := range []string{"inv", "end\n", "  ld   X0  ", "coil out:Y0\nend\n", "end\nwhat\n", "end\n\nwhat\nend"} {
			wantRefused(t, text+more, line+1, impl.ListMany)
			wantRefused(t, text+"\n \n"+more, line+3, impl.ListMany)
		}
		for _, more := range []string{"what", "ld\n", "inv X0", "LD X0", "\t", "end end\nend", "what\nend\n"} {
			wantRefused(t, text+more, line+1, impl.ListBad)
			wantRefused(t, text+"\n\n  \n"+more, line+4, impl.ListBad)
		}
		wantRefused(t, "what\n"+text+"inv", 1, impl.ListBad)
		wantRefused(t, strings.Replace(text, "inv", "vni", 1)+"inv\ninv\n", line-strings.Count(strings.TrimLeft(text, "\n"), "\n")+1, impl.ListBad)
	}
	for _, long := range []int{1001, 1002, 2000, 12500} {
		wantRefused(t, strings.Repeat("inv\n", long), 1001, impl.ListMany)
	}
	for _, line := range []int{1, 2, 500, 999, 1000, 1001} {
		wantRefused(t, strings.Repeat("inv\n", line-1)+"what\n"+strings.Repeat("inv\n", 3000), line, impl.ListBad)
	}
	wantRefused(t, strings.Repeat("inv\n", 1001)+"what\n", 1001, impl.ListMany)
}

// Promise 11, of texts made by dice, with and without faults.
func TestPromise11Made(t *testing.T) {
	found := map[int]int{}
	for _, bad := range []int{0, 5, 100} {
		m := newMaker(uint64(bad)+61, bad)
		for n := range 500 {
			long := m.below(12)
			if n%20 == 0 {
				long = 990 + m.below(30)
			}
			var lines []string
			for _, i := range m.list(long) {
				lines = append(lines, slowLine(i))
			}
			text := m.loose(lines)
			wantPromise11(t, text)
			_, fault := impl.ListParse(text)
			found[fault.Code]++
		}
	}
	if found[0] < 500 || found[2] < 100 || found[3] < 5 {
		t.Errorf("found %v", found)
	}
}

// What is read has lists of its own, also against what was read ahead of it, and is read the same once more.
func TestListParseMemory(t *testing.T) {
	for _, text := range []string{"", "end", "ld X0", "ld X0\nld X0\nld X0\n", "ld /X1\nand D1<5\nmps\ncoil out:Y0\nmpp\ncoil timer:T1,50\ncoil add:D1,D2,-3\nend", strings.Repeat("or +X0:E1\n", 1000)} {
		want, _ := slowParse(text)
		first, _ := impl.ListParse(text)
		second, _ := impl.ListParse(text)
		wantApart(t, nil, first)
		wantApart(t, first, second)
		spoil(reflect.ValueOf(first))
		wantAccepted(t, text, want)
		if shownList(second) != shownList(want) {
			t.Errorf("%.500q: what was read before has changed: %.500s", text, shownList(second))
		}
	}
}

// spoil overwrites all numbers of a value, and the room behind its lists.
func spoil(v reflect.Value) {
	switch v.Kind() {
	case reflect.Int:
		v.SetInt(99)
	case reflect.Struct:
		for i := range v.NumField() {
			spoil(v.Field(i))
		}
	case reflect.Slice:
		for i := range v.Cap() {
			spoil(v.Slice(0, v.Cap()).Index(i))
		}
	}
}

// The lists that are handed in stay as they were, what stands behind their ends too.
func TestListArguments(t *testing.T) {
	for _, bad := range []int{0, 200} {
		m := newMaker(uint64(bad)+71, bad)
		for n := range 40 {
			all := copiedList(m.list(n + 1))
			before := whole(all)
			for long := range all {
				list := all[:long]
				if got, want := impl.ListText(list), slowText(list); got != want {
					t.Errorf("ListText of %v = %q, not %q", list, got, want)
				}
				wantSame(t, list, all)
				wantSame(t, list, list)
				one := impl.Inst{Code: all[long].Code, One: impl.Elem{Op: all[long].One.Op, Args: all[long].One.Args[:0]}}
				wantInst(t, one)
				wantInst(t, all[long])
			}
			if whole(all) != before {
				t.Errorf("a list was written into: %v", all)
			}
		}
	}
}

// A call leaves nothing behind: what was refused ahead of it does not show.
func TestListKeepsNothing(t *testing.T) {
	good := "ld X0\nend\n"
	want := listOf("ld X0", "end")
	for _, bad := range []string{"what", strings.Repeat("inv\n", 1001), strings.Repeat(" ", 50001), "\n\nld", strings.Repeat("inv\n", 1000)} {
		impl.ListParse(bad)
		wantAccepted(t, good, want)
		impl.ListText(slices.Repeat(want, 501))
		if text := impl.ListText(want); text != good {
			t.Errorf("behind %.20q: %q", bad, text)
		}
	}
}

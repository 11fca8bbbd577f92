package tests

import (
	"fmt"
	"math"
	"regexp"
	"slices"
	"strings"
	"testing"

	"loop.example/stilway/impl"
)

// opRow is a row of the document's two tables of contacts and coils, told here once more: how it is written, with a % for each operand, and which operands it takes, in one way or in either of two.
type opRow struct {
	op   int
	name string
	form string
	ways []string
}

var opRows = []opRow{
	{1, "", "%", []string{"bit"}},
	{2, "", "/%", []string{"bit"}},
	{3, "", "+%:%", []string{"bit E"}},
	{4, "", "-%:%", []string{"bit E"}},
	{5, "", "%<%", []string{"whole whole", "real real"}},
	{6, "", "%<=%", []string{"whole whole", "real real"}},
	{7, "", "%=%", []string{"whole whole", "real real"}},
	{8, "", "%<>%", []string{"whole whole", "real real"}},
	{9, "", "%>=%", []string{"whole whole", "real real"}},
	{10, "", "%>%", []string{"whole whole", "real real"}},
	{21, "out", "out:%", []string{"YM"}},
	{22, "set", "set:%", []string{"YMS"}},
	{23, "reset", "reset:%", []string{"YMSTC"}},
	{24, "pulse", "pulse:%,%", []string{"YM E"}},
	{25, "step", "step:%", []string{"S"}},
	{26, "timer", "timer:%,%", []string{"T preset"}},
	{27, "hold", "hold:%,%", []string{"T preset"}},
	{28, "late", "late:%,%", []string{"T preset"}},
	{29, "count", "count:%,%", []string{"C preset"}},
	{30, "move", "move:%,%", []string{"D whole", "R real"}},
	{31, "add", "add:%,%,%", []string{"D whole whole", "R real real"}},
	{32, "sub", "sub:%,%,%", []string{"D whole whole", "R real real"}},
	{33, "mul", "mul:%,%,%", []string{"D whole whole", "R real real"}},
	{34, "div", "div:%,%,%", []string{"D whole whole", "R real real"}},
	{35, "rem", "rem:%,%,%", []string{"D whole whole"}},
	{36, "real", "real:%,%", []string{"R whole"}},
	{37, "whole", "whole:%,%", []string{"D real"}},
}

var notOps = []int{math.MinInt, -1000, -37, -21, -10, -1, 0, 11, 12, 13, 14, 15, 16, 17, 18, 19, 20, 38, 39, 1000, math.MaxInt}

func (r opRow) arity() int { return strings.Count(r.form, "%") }

// opRowOf is the row of an Op, or nil.
func opRowOf(op int) *opRow {
	for i := range opRows {
		if opRows[i].op == op {
			return &opRows[i]
		}
	}
	return nil
}

// pool has operands of each kind that are ok, at the edges, by their texts.
var pool = map[string]impl.DevArg{
	"X0": {Kind: 1}, "X31": {Kind: 1, N: 31}, "Y7": {Kind: 2, N: 7}, "M63": {Kind: 3, N: 63}, "S15": {Kind: 4, N: 15}, "E31": {Kind: 5, N: 31}, "G4": {Kind: 6, N: 4},
	"T0": {Kind: 7}, "C15": {Kind: 8, N: 15}, "D31": {Kind: 9, N: 31}, "R9": {Kind: 10, N: 9},
	"0": {Kind: 11}, "32767": {Kind: 11, N: 32767}, "-1": {Kind: 11, N: -1}, "-32768": {Kind: 11, N: -32768},
	"0.0": {Kind: 12, P: 1}, "-99.999999": {Kind: 12, N: -99999999, P: 6}, "-inf": {Kind: 13, N: 2}, "-0.0": {Kind: 13, N: 3},
}

// badPool has operands that are not ok, of each kind that some place takes.
var badPool = []impl.DevArg{
	{}, {Kind: 1, N: 32}, {Kind: 2, N: 32}, {Kind: 3, N: -1}, {Kind: 4, N: 16}, {Kind: 5, N: 32}, {Kind: 7, P: 1}, {Kind: 8, N: -1},
	{Kind: 9, N: 32}, {Kind: 10, N: 16}, {Kind: 11, N: 32768}, {Kind: 12, N: 10, P: 2}, {Kind: 13, N: 4}, {Kind: 14},
}

// wholePool is both pools, in a fixed order.
func wholePool() []impl.DevArg {
	var out []impl.DevArg
	for _, text := range poolTexts() {
		out = append(out, pool[text])
	}
	return append(out, badPool...)
}

func poolTexts() []string {
	var out []string
	for text := range pool {
		out = append(out, text)
	}
	slices.Sort(out)
	return out
}

// placeTakes says whether a place of that word takes an operand that is ok.
func placeTakes(place string, a impl.DevArg) bool {
	k := kindRows[a.Kind-1]
	switch place {
	case "bit":
		return k.bit
	case "whole":
		return k.whole
	case "real":
		return k.real
	case "preset":
		return a.Kind == 11 && a.N >= 0
	}
	return k.letter != "" && strings.Contains(place, k.letter)
}

// fits says whether an Op takes these operands, by the tables above.
func fits(row *opRow, args []impl.DevArg) bool {
	if row == nil || len(args) != row.arity() {
		return false
	}
	for _, a := range args {
		if !impl.DevOk(a) {
			return false
		}
	}
	for _, way := range row.ways {
		good := true
		for i, place := range strings.Fields(way) {
			good = good && placeTakes(place, args[i])
		}
		if good {
			return true
		}
	}
	return false
}

// formText puts the texts of operands into a form.
func formText(form string, texts ...string) string {
	for _, text := range texts {
		form = strings.Replace(form, "%", text, 1)
	}
	return form
}

// formShapes are patterns, a row each, of what may be the text of that Op.
func formShapes() []*regexp.Regexp {
	var out []*regexp.Regexp
	for _, row := range opRows {
		quoted := regexp.QuoteMeta(row.form)
		out = append(out, regexp.MustCompile(`^`+strings.ReplaceAll(quoted, "%", `([^<=>:,]+)`)+`$`))
	}
	return out
}

var shapes = formShapes()

// readSlowly reads a text by trying each Op.
func readSlowly(text string) (impl.Elem, bool) {
	for i, shape := range shapes {
		parts := shape.FindStringSubmatch(text)
		if parts == nil {
			continue
		}
		var args []impl.DevArg
		for _, part := range parts[1:] {
			a, _ := impl.DevRead(part)
			args = append(args, a)
		}
		if fits(&opRows[i], args) {
			return impl.Elem{Op: opRows[i].op, Args: args}, true
		}
	}
	return impl.Elem{}, false
}

func sameElem(a, b impl.Elem) bool { return a.Op == b.Op && slices.Equal(a.Args, b.Args) }

func wantElem(t *testing.T, text string, want impl.Elem, wantOk bool) {
	t.Helper()
	got, ok := impl.ElemRead(text)
	if ok != wantOk || !sameElem(got, want) {
		t.Errorf("ElemRead(%q) = %v %v, not %v %v", text, got, ok, want, wantOk)
	}
}

// wantAsRead holds a text against readSlowly, and what is read against the promise's own words.
func wantAsRead(t *testing.T, text string) {
	t.Helper()
	want, ok := readSlowly(text)
	wantElem(t, text, want, ok)
	e, ok := impl.ElemRead(text)
	if ok && (impl.ElemIsContact(e) == impl.ElemIsCoil(e) || impl.ElemText(e) != text) {
		t.Errorf("%q is read as %v, which is written %q", text, e, impl.ElemText(e))
	}
}

// tuples calls with all lists of that many of these; the list is new each time.
func tuples[T any](from []T, n int, call func([]T)) {
	var grow func(have []T)
	grow = func(have []T) {
		if len(have) == n {
			call(slices.Clone(have))
			return
		}
		for _, x := range from {
			grow(append(have, x))
		}
	}
	grow(make([]T, 0, n))
}

func TestElemConstants(t *testing.T) {
	contacts := []int{impl.ElemOpen, impl.ElemShut, impl.ElemUp, impl.ElemDown, impl.ElemLess, impl.ElemMost, impl.ElemSame, impl.ElemOther, impl.ElemLeast, impl.ElemMore}
	for i, op := range contacts {
		if op != i+1 {
			t.Errorf("contact %d is %d", i+1, op)
		}
	}
	coils := []int{impl.ElemOut, impl.ElemSet, impl.ElemReset, impl.ElemPulse, impl.ElemStep, impl.ElemTimer, impl.ElemHold, impl.ElemLate, impl.ElemCount, impl.ElemMove,
		impl.ElemAdd, impl.ElemSub, impl.ElemMul, impl.ElemDiv, impl.ElemRem, impl.ElemReal, impl.ElemWhole}
	for i, op := range coils {
		if op != i+21 {
			t.Errorf("coil %d is %d", i+21, op)
		}
	}
}

func TestElemArityAndName(t *testing.T) {
	for _, row := range opRows {
		if n := impl.ElemArity(row.op); n != row.arity() {
			t.Errorf("ElemArity(%d) = %d", row.op, n)
		}
		if s := impl.ElemName(row.op); s != row.name {
			t.Errorf("ElemName(%d) = %q", row.op, s)
		}
	}
	for _, op := range notOps {
		if impl.ElemArity(op) != 0 || impl.ElemName(op) != "" {
			t.Errorf("Op %d: %d %q", op, impl.ElemArity(op), impl.ElemName(op))
		}
	}
}

// Promise 3, of every Op with all operands of the pool.
func TestPromise3Written(t *testing.T) {
	seen := map[string]int{}
	for i := range opRows {
		row := &opRows[i]
		tuples(poolTexts(), row.arity(), func(texts []string) {
			e := impl.Elem{Op: row.op}
			for _, text := range texts {
				e.Args = append(e.Args, pool[text])
			}
			text := formText(row.form, texts...)
			if !fits(row, e.Args) {
				if got := impl.ElemText(e); got != "" {
					t.Errorf("ElemText(%v) = %q", e, got)
				}
				wantAsRead(t, text)
				return
			}
			seen[text]++
			if got := impl.ElemText(e); got != text {
				t.Errorf("ElemText(%v) = %q, not %q", e, got, text)
			}
			wantElem(t, text, e, true)
		})
	}
	if len(seen) < 500 {
		t.Errorf("only %d texts", len(seen))
	}
	for text, n := range seen {
		if n != 1 {
			t.Errorf("%q is written of %d", text, n)
		}
	}
}

// Promise 3, of each operand there is, at places that take it.
func TestPromise3EveryOperand(t *testing.T) {
	for text, a := range okOperands() {
		if (a.Kind == 11 || a.Kind == 12) && a.N%97 != 0 && a.N > -30000 && a.N < 30000 {
			continue
		}
		for i := range opRows {
			row := &opRows[i]
			e := impl.Elem{Op: row.op, Args: []impl.DevArg{a}}
			wanted := row.form
			if row.op >= 5 && row.op <= 10 {
				e.Args = append(e.Args, a)
				wanted = formText(wanted, text)
			} else if row.arity() != 1 {
				continue
			}
			if !fits(row, e.Args) {
				wantElem(t, formText(wanted, text), impl.Elem{}, false)
				continue
			}
			wantElem(t, formText(wanted, text), e, true)
			if got := impl.ElemText(e); got != formText(wanted, text) {
				t.Errorf("ElemText(%v) = %q", e, got)
			}
		}
	}
}

// Promise 3, at the edges that the chapter names, written out.
func TestPromise3Edges(t *testing.T) {
	x, e1, t1, c2, d1, d2, r3 := impl.DevArg{Kind: 1}, impl.DevArg{Kind: 5, N: 1}, impl.DevArg{Kind: 7, N: 1}, impl.DevArg{Kind: 8, N: 2}, impl.DevArg{Kind: 9, N: 1}, impl.DevArg{Kind: 9, N: 2}, impl.DevArg{Kind: 10, N: 3}
	whole := func(n int) impl.DevArg { return impl.DevArg{Kind: 11, N: n} }
	nan, minus := impl.DevArg{Kind: 13}, impl.DevArg{Kind: 13, N: 2}
	elem := func(op int, args ...impl.DevArg) impl.Elem { return impl.Elem{Op: op, Args: args} }
	for text, e := range map[string]impl.Elem{
		"X0": elem(1, x), "/X0": elem(2, x), "+X0:E1": elem(3, x, e1), "-X0:E1": elem(4, x, e1), "T1": elem(1, t1), "/C2": elem(2, c2), "-T1:E1": elem(4, t1, e1),
		"D1<D2": elem(5, d1, d2), "D1<=D2": elem(6, d1, d2), "D1=D2": elem(7, d1, d2), "D1<>D2": elem(8, d1, d2), "D1>=D2": elem(9, d1, d2), "D1>D2": elem(10, d1, d2),
		"-5<-6": elem(5, whole(-5), whole(-6)), "0<=0": elem(6, whole(0), whole(0)), "T1=C2": elem(7, t1, c2), "-inf<>nan": elem(8, minus, nan), "-0.5>=R3": elem(9, dec(-5, 1), r3), "R3>0.0": elem(10, r3, dec(0, 1)),
		"out:Y0": elem(21, impl.DevArg{Kind: 2}), "set:S0": elem(22, impl.DevArg{Kind: 4}), "reset:T1": elem(23, t1), "reset:C2": elem(23, c2), "pulse:M0,E1": elem(24, impl.DevArg{Kind: 3}, e1), "step:S15": elem(25, impl.DevArg{Kind: 4, N: 15}),
		"timer:T1,0": elem(26, t1, whole(0)), "timer:T1,50": elem(26, t1, whole(50)), "timer:T1,32767": elem(26, t1, whole(32767)), "hold:T1,0": elem(27, t1, whole(0)), "late:T1,32767": elem(28, t1, whole(32767)), "count:C2,0": elem(29, c2, whole(0)), "count:C2,32767": elem(29, c2, whole(32767)),
		"move:D1,-32768": elem(30, d1, whole(-32768)), "move:R3,nan": elem(30, r3, nan), "move:D1,T1": elem(30, d1, t1), "add:D1,D2,-1": elem(31, d1, d2, whole(-1)), "sub:R3,-inf,R3": elem(32, r3, minus, r3), "mul:D1,C2,T1": elem(33, d1, c2, t1), "div:R3,1.0,0.5": elem(34, r3, dec(10, 1), dec(5, 1)),
		"rem:D1,D1,D1": elem(35, d1, d1, d1), "real:R3,C2": elem(36, r3, c2), "whole:D1,-inf": elem(37, d1, minus),
	} {
		if got := impl.ElemText(e); got != text {
			t.Errorf("ElemText(%v) = %q, not %q", e, got, text)
		}
		wantElem(t, text, e, true)
	}
}

// Promise 3, of texts that are none of a contact or coil.
func TestPromise3WrongTexts(t *testing.T) {
	for _, text := range []string{
		"", " ", ":", ",", "/", "+", "-", "<", "<=", "=", "<>", ">=", ">", "::", "/:", "+:", "-:", ":E1", "\x00", "\xff", "\n",
		"E1", "/E1", "D1", "R1", "5", "-5", "0.5", "nan", "-inf", "/D1", "/nan", "/5",
		"+X0", "-X0", "+X0:", "-X0:", "+:E1", "-:E1", "X0:E1", "/X0:E1", "+X0E1", "+X0:X1", "+E1:X0", "+E1:E1", "-X0:M1", "+D1:E1", "-R1:E1", "+X0:E1:E2", "-X0::E1", "+X0:E32", "+X0,E1", "++X0:E1", "+-X0:E1", "--X0:E1", "//X0", "/+X0:E1", "+/X0:E1", "X0/", "+X0:+E1", "+X0:E1:",
		"D1<R1", "R1<D1", "1<1.0", "1.0<1", "T1=nan", "nan=T1", "X0<X1", "X0=D1", "E1<E1", "D1<E1", "D1<", "<D1", "D1<=", "=D1", "D1<<D2", "D1==D2", "D1>>D2", "D1><D2", "D1=<D2", "D1=>D2", "D1<=>D2", "D1!=D2", "D1<>=D2", "D1<D2<D3", "D1<D2=D3", "D1=D2=D3", "D1<>D2<>D3", "D1D2", "D1,D2", "/D1<D2", "+D1<D2", "D1<+D2", "D1<D2:E1", "-D1<D2", "--5<D1",
		"out", "out:", "outY0", "out Y0", "out;Y0", "out::Y0", "out:Y0:", "out:,Y0", "out:Y0,", "out:Y0,Y1", "Out:Y0", "OUT:Y0", " out:Y0", "out:Y0 ", "out: Y0", "out :Y0", "outs:Y0", "ou:Y0", ":Y0", "out:X0", "out:S0", "out:T0", "out:C0", "out:G0", "out:E0", "out:D0", "out:R0", "out:5", "out:/Y0", "out:Y32", "out:Y00", "out:out:Y0", "/out:Y0",
		"set:X0", "set:T1", "set:C1", "set:E1", "set:D1", "reset:X0", "reset:G0", "reset:E0", "reset:D0", "reset:R0", "step:M1", "step:S16", "step:Y1", "pulse:Y0", "pulse:E0", "pulse:Y0,Y0", "pulse:E0,Y0", "pulse:S0,E0", "pulse:X0,E0", "pulse:Y0:E0", "pulse:Y0,E0,E0",
		"timer:T1", "timer:T1,", "timer:,50", "timer:T1,-1", "timer:T1,-32768", "timer:T1,32768", "timer:T1,50,50", "timer:T1,5.0", "timer:T1,D1", "timer:T1,T1", "timer:C1,50", "timer:50,T1", "timer:T1 50", "timer:T1:50", "timer:T1,,50", "timer:T1,+5", "timer:T1,05", "timer:T1,-0",
		"hold:T1", "hold:C1,5", "hold:T1,-1", "late:T1,C1", "late:C1,1", "late:T1,-1", "count:C1", "count:C1,C2", "count:T1,5", "count:C1,-1", "count:C1,nan", "count:C1,0.0",
		"move:D0", "move:D0,", "move:D0,1.0", "move:R0,1", "move:D0,R0", "move:R0,D0", "move:D0,X0", "move:D0,E0", "move:T0,1", "move:C0,1", "move:1,D0", "move:D0,1,1",
		"add:D1", "add:D1,D2", "add:D1,D2,", "add:D1,D2,R1", "add:D1,R1,D2", "add:R1,D1,D1", "add:R1,R1,D1", "add:D1,R1,R1", "add:R1,1.0,1", "add:D1,D1,D1,D1", "add:D1,D1,D1,", "sub:T1,1,1", "mul:1,1,1", "div:R1,R1", "div:D1,1,0.0",
		"rem:R1,R2,R3", "rem:D1,D2", "rem:D1,1.0,1.0", "rem:D1,D2,R1", "rem:D1,D1,D1,D1", "real:R0,1.0", "real:D0,1", "real:R0", "real:R0,R1", "real:R0,1,1", "whole:D0,1", "whole:R0,1.0", "whole:D0", "whole:D0,D1", "whole:D0,1.0,1.0",
		"X0 ", " X0", "X 0", "/ X0", "+X0: E1", "+X0 :E1", "D1 <D2", "D1< D2", "D1 < D2", "D1< =D2", "timer:T1, 50", "timer:T1 ,50", "X0\n", "X0\x00", "X0\xff", "\xffX0", "/\xffX0", "D1\xff<D2", "D1<D2\xff", "o\xffut:Y0", "out:\xffY0", "D1\u2264D2", "D1\u2260D2", "\u2212X0:E1", "\uff0fX0", "\uff0bX0:E1", "out\uff1aY0", "ld X0", "coil out:Y0", "X0,X1", "X0X1", "not:X0", "and:X0,X1", "end",
		strings.Repeat("/", 5000), strings.Repeat(":", 5000), strings.Repeat("<", 5000), "out:" + strings.Repeat("Y0,", 5000), "D1" + strings.Repeat("<D1", 5000), "+X0" + strings.Repeat(":E1", 5000), strings.Repeat("out:", 5000) + "Y0",
	} {
		wantElem(t, text, impl.Elem{}, false)
	}
}

// Promise 3, of all short rows of pieces of texts.
func TestPromise3Pieces(t *testing.T) {
	read := 0
	for n, pieces := range [][]string{
		4: {"X0", "Y1", "E2", "T3", "D4", "R5", "6", "-", "/", "+", "<", "=", ">", ":", ",", " ", ".0", "nan", "\xff"},
		5: {"E2", "T3", "R5", "6", "-", "+", "<", "=", ":", "timer", ","},
		6: {"add:", "move:", ",", "D4", "7", "R1", "nan"},
	} {
		for k := 0; k <= n; k++ {
			tuples(pieces, k, func(parts []string) {
				text := strings.Join(parts, "")
				wantAsRead(t, text)
				if _, ok := impl.ElemRead(text); ok {
					read++
				}
			})
		}
	}
	if read < 200 {
		t.Errorf("only %d texts are read", read)
	}
}

// Promise 3, of texts that are one byte away from one that is read.
func TestPromise3OneByteOff(t *testing.T) {
	for _, row := range opRows {
		for _, text := range []string{formText(row.form, "M1", "E2"), formText(row.form, "S3", "5"), formText(row.form, "T4", "50", "C1"), formText(row.form, "D6", "-7", "D8"), formText(row.form, "R9", "-0.5", "nan"), formText(row.form, "D1", "-inf"), formText(row.form, "C0", "0")} {
			wantAsRead(t, text)
			for at := 0; at <= len(text); at++ {
				for b := 0; b < 256; b++ {
					wantAsRead(t, text[:at]+string([]byte{byte(b)})+text[at:])
					if at < len(text) {
						wantAsRead(t, text[:at]+string([]byte{byte(b)})+text[at+1:])
					}
				}
				if at < len(text) {
					wantAsRead(t, text[:at]+text[at+1:])
					wantAsRead(t, text[:at]+text[at:at+1]+text[at:])
				}
			}
		}
	}
}

// wantKinds holds what the program says of an Elem against the tables, and against the promise's own words.
func wantKinds(t *testing.T, e impl.Elem) {
	t.Helper()
	contact, coil := impl.ElemIsContact(e), impl.ElemIsCoil(e)
	is := fits(opRowOf(e.Op), e.Args)
	if contact != (is && e.Op <= 10) || coil != (is && e.Op >= 21) {
		t.Errorf("%v: contact %v, coil %v", e, contact, coil)
	}
	if contact && coil {
		t.Errorf("%v is both", e)
	}
	if (impl.ElemText(e) != "") != is {
		t.Errorf("ElemText(%v) = %q", e, impl.ElemText(e))
	}
	if !contact && !coil {
		return
	}
	if len(e.Args) != impl.ElemArity(e.Op) {
		t.Errorf("%v has not %d operands", e, impl.ElemArity(e.Op))
	}
	for _, a := range e.Args {
		if !impl.DevOk(a) {
			t.Errorf("%v has %v, which is not ok", e, a)
		}
	}
}

// Promise 4, of every Op and of numbers that are none, with all lists of up to three operands that are ok or not.
func TestPromise4(t *testing.T) {
	ops := slices.Clone(notOps)
	for _, row := range opRows {
		ops = append(ops, row.op)
	}
	for _, op := range ops {
		wantKinds(t, impl.Elem{Op: op})
		wantKinds(t, impl.Elem{Op: op, Args: []impl.DevArg{}})
		for n := 1; n <= 3; n++ {
			tuples(wholePool(), n, func(args []impl.DevArg) {
				wantKinds(t, impl.Elem{Op: op, Args: args})
			})
		}
	}
}

// Promise 4, of what is ok with one operand too few, one too many, or one that is not ok.
func TestPromise4OneOff(t *testing.T) {
	found := map[int]int{}
	for i := range opRows {
		row := &opRows[i]
		tuples(poolTexts(), row.arity(), func(texts []string) {
			e := impl.Elem{Op: row.op}
			for _, text := range texts {
				e.Args = append(e.Args, pool[text])
			}
			if !fits(row, e.Args) {
				return
			}
			found[row.op]++
			for at := range e.Args {
				wantKinds(t, impl.Elem{Op: e.Op, Args: slices.Delete(slices.Clone(e.Args), at, at+1)})
				for _, a := range wholePool() {
					wantKinds(t, impl.Elem{Op: e.Op, Args: slices.Insert(slices.Clone(e.Args), at, a)})
					other := slices.Clone(e.Args)
					other[at] = a
					wantKinds(t, impl.Elem{Op: e.Op, Args: other})
				}
			}
			wantKinds(t, impl.Elem{Op: e.Op, Args: append(slices.Clone(e.Args), e.Args...)})
		})
	}
	for _, row := range opRows {
		if found[row.op] == 0 {
			t.Errorf("no operands for Op %d", row.op)
		}
	}
}

// Promise 4, of all operands that are beyond an edge, at each place.
func TestPromise4BadOperands(t *testing.T) {
	good := map[string]impl.DevArg{"bit": pool["X0"], "whole": pool["0"], "real": pool["-inf"], "preset": pool["0"], "E": pool["E31"], "S": pool["S15"], "T": pool["T0"], "C": pool["C15"], "D": pool["D31"], "R": pool["R9"], "YM": pool["Y7"], "YMS": pool["S15"], "YMSTC": pool["T0"]}
	for _, row := range opRows {
		for _, way := range row.ways {
			var args []impl.DevArg
			for _, place := range strings.Fields(way) {
				args = append(args, good[place])
			}
			e := impl.Elem{Op: row.op, Args: args}
			if impl.ElemIsContact(e) == impl.ElemIsCoil(e) {
				t.Errorf("%v is not just one of the two", e)
			}
			for at := range args {
				for _, bad := range badOperands() {
					other := slices.Clone(args)
					other[at] = bad
					e := impl.Elem{Op: row.op, Args: other}
					if impl.ElemIsContact(e) || impl.ElemIsCoil(e) || impl.ElemText(e) != "" {
						t.Errorf("%v has %v, which is not ok", e, bad)
					}
				}
			}
		}
	}
}

// What is read is new memory, and nothing is written into an argument or behind its end.
func TestElemMemory(t *testing.T) {
	for _, text := range []string{"X0", "+X0:E1", "D1<D2", "timer:T1,50", "add:D1,D2,-5"} {
		first, _ := impl.ElemRead(text)
		whole := first.Args[:cap(first.Args)]
		for i := range whole {
			whole[i] = impl.DevArg{Kind: 99, N: 99, P: 99}
		}
		want, _ := readSlowly(text)
		wantElem(t, text, want, true)
		room := append(slices.Clone(want.Args), badPool...)
		kept := fmt.Sprint(room)
		e := impl.Elem{Op: want.Op, Args: room[:len(want.Args)]}
		if got := impl.ElemText(e); got != text || !impl.ElemIsContact(e) && !impl.ElemIsCoil(e) {
			t.Errorf("ElemText(%v) = %q", e, got)
		}
		if fmt.Sprint(room) != kept {
			t.Errorf("%q: an argument was written into", text)
		}
	}
}

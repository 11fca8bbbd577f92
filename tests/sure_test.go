package tests

import (
	"fmt"
	"math"
	"reflect"
	"slices"
	"testing"

	"loop.example/stilway/impl"
)

func TestSureConstants(t *testing.T) {
	codes := []int{impl.SureMany, impl.SureWord, impl.SureUnder, impl.SureOver, impl.SureOpen, impl.SureBase, impl.SureFork, impl.SureIdle, impl.SureCut}
	if !slices.Equal(codes, []int{1, 2, 3, 4, 5, 6, 7, 8, 9}) || impl.SureMaxBits != 16 || impl.SureMaxForks != 8 {
		t.Errorf("codes %v, limits %d and %d", codes, impl.SureMaxBits, impl.SureMaxForks)
	}
}

// wantList holds all that is said of a list against the second telling, and the promises against their own words.
func wantList(t *testing.T, list []impl.Inst) {
	t.Helper()
	if got, want := impl.SureCheck(list), slowSure(list); got != want {
		t.Errorf("SureCheck of %.500s = %v, not %v", shownList(list), got, want)
	}
	wantHeights(t, list)
	if got, want := impl.SureRungs(list), slowRungs(list); fmt.Sprint(got) != fmt.Sprint(want) {
		t.Errorf("SureRungs of %.500s = %.500s", shownList(list), fmt.Sprint(got))
	}
	wantPromise12(t, list)
	wantPromise13(t, list)
	wantPromise14(t, list)
}

func wantHeights(t *testing.T, list []impl.Inst) {
	t.Helper()
	if got, want := impl.SureTrace(list), slowTrace(list); !slices.Equal(got, want) {
		t.Errorf("SureTrace of %.500s = %.500s, not %.500s", shownList(list), fmt.Sprint(got), fmt.Sprint(want))
	}
	if got, want := impl.SurePeak(list), slowPeak(list); got != want {
		t.Errorf("SurePeak of %.500s = %v, not %v", shownList(list), got, want)
	}
}

// wantCode is of a list that is told this fault of.
func wantCode(t *testing.T, list []impl.Inst, code, at int) {
	t.Helper()
	if got := impl.SureCheck(list); got != (impl.SureFault{Code: code, At: at}) {
		t.Errorf("SureCheck of %.500s = %v, not code %d at %d", shownList(list), got, code, at)
	}
}

// wantSure is of a list that is told this fault of, with all else that is said of it.
func wantSure(t *testing.T, list []impl.Inst, code, at int) {
	t.Helper()
	wantCode(t, list, code, at)
	wantList(t, list)
}

// wantShort is of lists that are told this code of at their last instruction; those of code 0 have nothing wrong so far.
func wantShort(t *testing.T, code int, lists ...string) {
	t.Helper()
	for _, words := range lists {
		list := short(words)
		if code != 0 {
			wantSure(t, list, code, len(list)-1)
			continue
		}
		wantList(t, list)
		if got := impl.SureCheck(list); got != (impl.SureFault{}) && got != (impl.SureFault{Code: impl.SureCut, At: len(list)}) {
			t.Errorf("SureCheck of %s = %v", words, got)
		}
		wantSure(t, slices.Concat(list, closing(list)), 0, 0)
	}
}

// wrongByPromise12 says what of the promise's words does not hold for an instruction, by the heights ahead of it and behind it; the empty text, if all do.
func wrongByPromise12(list []impl.Inst, at int, ahead, behind impl.SureState) string {
	i, rung := list[at], rungSoFar(list[:at])
	isEnd := isCode(i, "end")
	isBase := hasCode(rung, "coil", "mps")
	followsCoil := at > 0 && isCode(list[at-1], "coil")
	switch {
	case !impl.ListOk(i):
		return "not ok"
	case behind.Bits < 0 || behind.Bits > 16:
		return "bits"
	case behind.Forks < 0 || behind.Forks > 8:
		return "forks"
	case isEnd && behind != (impl.SureState{}):
		return "not 0 behind an end"
	case ahead.Bits == 0 && (!isCode(i, "ld") || len(rung) > 0):
		return "no bits, and no first ld"
	case isCode(i, "anb", "orb") && ahead.Bits < 2:
		return "not 2 bits"
	case (isEnd || isCode(i, "mps", "mrd", "mpp", "coil")) && ahead.Bits != 1:
		return "not 1 bit"
	case isBase && (isCode(i, "or", "inv") && ahead.Bits == 1 || isCode(i, "orb") && ahead.Bits == 2):
		return "what was seen is turned or widened"
	case isCode(i, "mrd", "mpp") && ahead.Forks == 0:
		return "no fork"
	case (isEnd || isCode(i, "mrd", "mpp")) && !followsCoil:
		return "behind no coil"
	}
	return ""
}

// wantPromise12 is of any list; one that is too long is never verified.
func wantPromise12(t *testing.T, list []impl.Inst) {
	t.Helper()
	wrong := ""
	var ahead impl.SureState
	for at, behind := range impl.SureTrace(list) {
		if wrong == "" {
			wrong = wrongByPromise12(list, at, ahead, behind)
		}
		ahead = behind
	}
	if wrong == "" && ahead != (impl.SureState{}) {
		wrong = "not 0 at the end"
	}
	if len(list) > 1000 {
		wrong = "too long"
	}
	if got := impl.SureCheck(list); (got == impl.SureFault{}) != (wrong == "") || (got.Code == 0) != (wrong == "") {
		t.Errorf("SureCheck of %.500s = %v, but the promise says %q", shownList(list), got, wrong)
	}
}

// wantPromise13 is of the rungs of a list that is verified; a list that is not has none.
func wantPromise13(t *testing.T, list []impl.Inst) {
	t.Helper()
	rungs := impl.SureRungs(list)
	if impl.SureCheck(list) != (impl.SureFault{}) {
		if len(rungs) > 0 {
			t.Errorf("%.500s is not verified, but has rungs %.500s", shownList(list), fmt.Sprint(rungs))
		}
		return
	}
	if again := slices.Concat(rungs...); !impl.ListSame(again, list) || shownList(again) != shownList(list) {
		t.Errorf("the rungs of %.500s are %.500s, one behind the other", shownList(list), shownList(again))
	}
	for _, rung := range rungs {
		if got := impl.SureCheck(rung); got != (impl.SureFault{}) || len(rung) == 0 || hasCode(rung[:len(rung)-1], "end") || !hasCode(rung, "end") {
			t.Errorf("the rung %.500s of %.500s: %v", shownList(rung), shownList(list), got)
		}
	}
}

// wantPromise14 is of any list: what is ahead of the instruction that is told is right, and nothing behind it changes what is told.
func wantPromise14(t *testing.T, list []impl.Inst) {
	t.Helper()
	fault := impl.SureCheck(list)
	if fault.Code == 0 || fault.Code == 1 {
		return
	}
	wantRight(t, list[:fault.At])
	if fault.Code == impl.SureCut {
		return
	}
	same := list[:fault.At+1]
	for _, tail := range [][]impl.Inst{nil, short("end"), short("ld"), short("what?"), short("coil end"), short("ld coil end"), list, slices.Repeat(short("anb"), 1000-len(same))} {
		if long := slices.Concat(same, tail); len(long) <= 1000 {
			if got := impl.SureCheck(long); got != fault {
				t.Errorf("SureCheck of %.500s = %v, but of %.500s %v", shownList(list), fault, shownList(long), got)
			}
		}
	}
}

// wantRight is of a list with which nothing is wrong so far: it goes on to one that is verified, if that is not too long.
func wantRight(t *testing.T, list []impl.Inst) {
	t.Helper()
	want := impl.SureFault{}
	if heights(list).Bits > 0 {
		want = impl.SureFault{Code: impl.SureCut, At: len(list)}
	}
	if got := impl.SureCheck(list); got != want {
		t.Errorf("SureCheck of %.500s = %v, not %v", shownList(list), got, want)
	}
	if whole := slices.Concat(list, closing(list)); len(whole) <= 1000 {
		if got := impl.SureCheck(whole); got != (impl.SureFault{}) {
			t.Errorf("SureCheck of %.500s = %v", shownList(whole), got)
		}
	}
}

// Promise 12, at the edges that the chapter names: how many bits an instruction finds.
func TestPromise12Bits(t *testing.T) {
	wantShort(t, impl.SureUnder, "and", "or", "anb", "orb", "inv", "mps", "mrd", "mpp", "coil", "end", "ld anb", "ld orb", "ld and anb", "ld coil anb", "ld coil orb", "ld mps anb", "ld mps orb", "2*ld anb anb", "2*ld anb orb")
	for _, word := range []string{"and", "or", "anb", "orb", "inv", "mps", "mrd", "mpp", "coil", "end"} {
		wantShort(t, impl.SureUnder, "ld coil end "+word)
	}
	wantShort(t, impl.SureUnder, "ld coil end ld anb", "ld coil end ld orb")
	wantShort(t, 0, "ld", "ld and", "ld or", "ld inv", "2*ld anb", "2*ld orb", "2*ld and", "2*ld or", "2*ld inv", "2*ld anb ld anb", "ld mps", "ld coil", "ld mps coil mrd", "ld mps coil mpp", "ld coil end", "ld coil end ld", "3*ld anb anb", "3*ld orb orb")
	wantShort(t, impl.SureOpen, "2*ld mps", "2*ld mrd", "2*ld mpp", "2*ld coil", "2*ld end", "16*ld coil", "ld mps ld mps", "ld mps ld mrd", "ld mps ld mpp", "ld mps ld coil", "ld mps ld end", "ld coil ld mps", "ld coil ld mrd", "ld coil ld mpp", "ld coil ld coil", "ld coil ld end", "ld mps coil ld mpp", "3*ld anb coil")
	wantShort(t, impl.SureOver, "17*ld", "16*ld and ld", "16*ld anb ld ld", "ld coil 16*ld", "ld mps 16*ld", "ld coil end 17*ld")
	wantShort(t, 0, "16*ld", "16*ld 15*anb", "16*ld 15*orb", "16*ld anb ld", "16*ld or inv and", "ld coil 15*ld", "ld coil 15*ld 15*anb", "ld mps 15*ld 14*orb anb", "ld coil end 16*ld", "16*ld 15*anb coil end 16*ld")
}

// Promise 12, of what a coil or an mps has seen: it is not turned or widened in its rung, but what is put beside it may be.
func TestPromise12Base(t *testing.T) {
	for _, seen := range []string{"ld coil", "ld mps", "ld mps coil", "ld mps coil mrd", "ld mps coil mpp", "ld coil and", "ld mps and", "ld coil ld anb", "ld and coil coil", "2*ld anb coil", "ld coil end ld coil", "ld coil end ld mps"} {
		wantShort(t, impl.SureBase, seen+" or", seen+" inv", seen+" ld orb", seen+" ld or orb", seen+" 2*ld anb orb", seen+" 2*ld orb orb", seen+" ld anb or", seen+" ld anb inv")
		wantShort(t, 0, seen+" ld or", seen+" ld inv", seen+" ld or inv anb", seen+" 2*ld orb", seen+" 2*ld orb anb", seen+" 2*ld inv or orb inv anb", seen+" and ld anb")
	}
	for _, ahead := range []string{"", "ld coil end ", "ld mps coil mpp coil end ", "ld coil coil end ld coil end "} {
		for _, base := range []string{"ld or", "ld inv", "2*ld orb", "ld or inv", "2*ld orb inv or"} {
			wantShort(t, 0, ahead+base, ahead+base+" coil", ahead+base+" mps", ahead+base+" coil and coil", ahead+base+" mps coil mpp coil end "+base)
		}
	}
}

// Promise 12, of forks.
func TestPromise12Forks(t *testing.T) {
	wantShort(t, impl.SureFork, "ld mrd", "ld mpp", "ld coil mrd", "ld coil mpp", "ld mps coil mpp coil mpp", "ld mps coil mpp coil mrd", "ld mps end", "ld mps coil end", "ld mps and end", "ld mps coil mrd coil end", "ld mps mps coil mpp coil end", "ld 9*mps", "ld 8*mps coil mps", "ld 8*mps and mps", "ld 8*mps coil mpp mps mps", "ld mps coil mpp coil end ld coil mpp", "ld coil end ld 9*mps")
	wantShort(t, 0, "ld 8*mps", "ld 8*mps coil mpp", "ld 8*mps coil mpp mps", "ld 8*mps coil mrd", "ld mps coil mrd coil mrd coil mpp coil", "ld mps mps coil mpp coil mpp coil end", "ld mps coil mpp mps coil mpp coil end", "ld coil mps", "ld coil end ld 8*mps", "ld mps coil mpp coil coil end")
}

// Promise 12, of what mrd, mpp and end follow.
func TestPromise12Idle(t *testing.T) {
	for _, ahead := range []string{"ld", "ld coil and", "ld or", "2*ld anb", "2*ld orb", "ld inv", "ld mps coil mpp", "ld coil end ld", "ld coil ld anb"} {
		wantShort(t, impl.SureIdle, ahead+" end")
		wantShort(t, 0, ahead+" coil end", ahead+" coil coil end")
	}
	for _, ahead := range []string{"ld mps", "ld mps and", "ld mps ld anb", "ld mps 2*ld orb anb", "ld mps ld inv anb", "ld mps ld or anb", "ld mps coil mrd", "ld mps coil and", "ld 2*mps coil mpp", "ld mps mps"} {
		wantShort(t, impl.SureIdle, ahead+" mrd", ahead+" mpp")
		wantShort(t, 0, ahead+" coil mrd", ahead+" coil mpp", ahead+" coil coil mpp")
	}
	wantShort(t, impl.SureUnder, "end", "mrd", "mpp", "ld coil end end", "ld coil end mrd", "ld coil end mpp")
}

// Promise 12, of instructions that are not ok: by the Code, by what they take, and by both, wherever one stands.
func TestPromise12Words(t *testing.T) {
	good := short("ld or and 2*ld orb inv anb coil mps coil mrd and coil mpp coil end ld coil end")
	wantSure(t, good, 0, 0)
	var wrong []impl.Inst
	for _, code := range notCodes {
		wrong = append(wrong, impl.Inst{Code: code}, impl.Inst{Code: code, One: elem("X0")}, impl.Inst{Code: code, One: elem("out:Y0")})
	}
	for _, row := range codeRows {
		for _, one := range slices.Concat(badElems, []impl.Elem{{}, elem("X0"), elem("out:Y0"), {Args: []impl.DevArg{}}}) {
			if i := (impl.Inst{Code: row.code, One: one}); !slowOk(i) {
				wrong = append(wrong, i)
			}
		}
	}
	for _, i := range wrong {
		for at := range len(good) + 1 {
			wantSure(t, slices.Insert(slices.Clone(good), at, i), impl.SureWord, at)
		}
	}
	for at := range good {
		other := slices.Clone(good)
		other[at].One = impl.Elem{Op: 1, Args: []impl.DevArg{{Kind: 1, N: 32}}}
		wantSure(t, other, impl.SureWord, at)
		other[at].Code = -other[at].Code
		wantSure(t, other, impl.SureWord, at)
	}
	wantSure(t, []impl.Inst{{Code: math.MinInt}, {Code: math.MaxInt}}, impl.SureWord, 0)
	empty := impl.Elem{Args: []impl.DevArg{}}
	wantSure(t, []impl.Inst{good[0], good[8], {Code: impl.ListEnd, One: empty}}, 0, 0)
}

// Promise 12, of every instruction there is in the place of another one of its Code: only the Codes count.
func TestPromise12EveryInstruction(t *testing.T) {
	for _, i := range poolInsts() {
		switch {
		case isCode(i, "ld"):
			wantSure(t, append([]impl.Inst{i}, short("coil end")...), 0, 0)
		case isCode(i, "and", "or"):
			wantSure(t, append(short("ld"), i, short("coil")[0], short("end")[0]), 0, 0)
		case isCode(i, "coil"):
			wantSure(t, append(short("ld"), i, short("end")[0]), 0, 0)
		}
	}
}

// Promise 12, of lists that end too early: at the length of the list, and only if no instruction is wrong.
func TestPromise12Cut(t *testing.T) {
	good := short("ld or and 2*ld orb inv anb coil mps coil mrd and coil mpp coil end ld mps coil mpp coil end ld coil end")
	for long := range len(good) + 1 {
		code, at := impl.SureCut, long
		if long == 0 || isCode(good[long-1], "end") {
			code, at = 0, 0
		}
		wantSure(t, good[:long], code, at)
	}
	wantSure(t, nil, 0, 0)
	wantSure(t, []impl.Inst{}, 0, 0)
	wantSure(t, good[:0], 0, 0)
	for _, words := range []string{"ld", "16*ld", "ld 8*mps", "ld 999*coil", "ld coil end ld 996*coil", "ld 999*and"} {
		wantSure(t, short(words), impl.SureCut, len(short(words)))
	}
}

// Promise 12, of the most instructions there may be, and of one more, whatever they are.
func TestPromise12Many(t *testing.T) {
	for at, list := range [][]impl.Inst{
		short("ld 998*coil end"),
		short("ld 500*and 498*coil end"),
		slices.Concat(slices.Repeat(short("ld coil end"), 332), short("ld 2*coil end")),
		slices.Concat(short("ld mps coil"), slices.Repeat(short("mrd coil"), 497), short("mpp coil end")),
	} {
		if len(list) != 1000 {
			t.Fatalf("list %d: %d instructions", at, len(list))
		}
		wantSure(t, list, 0, 0)
		wantSure(t, list[:999], impl.SureCut, 999)
		for _, i := range shortInsts() {
			wantSure(t, append(slices.Clone(list), i), impl.SureMany, 0)
			wantSure(t, append([]impl.Inst{i}, list...), impl.SureMany, 0)
		}
		wantSure(t, slices.Concat(list, list), impl.SureMany, 0)
	}
	wantSure(t, make([]impl.Inst, 1000), impl.SureWord, 0)
	wantSure(t, make([]impl.Inst, 1001), impl.SureMany, 0)
	for _, long := range []int{1001, 1002, 5000, 300000} {
		wantCode(t, slices.Repeat(short("ld"), long), impl.SureMany, 0)
	}
}

// wrongPieces are rungs that go wrong at their last instruction, each by one code alone.
var wrongPieces = map[int][]string{
	impl.SureWord:  {"ld?", "ld what", "ld what?", "ld coil?", "ld coil end?", "2*ld orb?"},
	impl.SureUnder: {"and", "inv", "coil", "mps", "ld anb", "ld orb"},
	impl.SureOver:  {"17*ld", "ld coil 16*ld"},
	impl.SureOpen:  {"2*ld coil", "2*ld mps", "16*ld coil"},
	impl.SureBase:  {"ld coil or", "ld mps inv", "ld coil ld orb"},
	impl.SureFork:  {"ld coil mrd", "ld coil mpp", "ld mps coil end", "ld 9*mps"},
	impl.SureIdle:  {"ld end", "ld mps mrd", "ld mps mpp", "ld coil and end"},
}

// filler is a verified list of so many instructions, none if there cannot be one.
func filler(long int) []impl.Inst {
	if long < 3 {
		return nil
	}
	return slices.Concat(short("ld"), slices.Repeat(short("coil"), long-2), short("end"))
}

// Each code by itself, at the first instruction where it can be, in the middle of a list and at its end, with up to 1000 instructions.
func TestPromise12And14EachCode(t *testing.T) {
	for code, pieces := range wrongPieces {
		for _, words := range pieces {
			piece := short(words)
			for _, ahead := range [][]impl.Inst{nil, filler(3), short("ld or mps coil mpp coil end"), slices.Repeat(filler(5), 10)} {
				wantSure(t, slices.Concat(ahead, piece), code, len(ahead)+len(piece)-1)
				for _, behind := range []string{"ld coil end", "what", "end", "ld"} {
					wantSure(t, slices.Concat(ahead, piece, short(behind)), code, len(ahead)+len(piece)-1)
				}
			}
			for _, long := range []int{0, 3, 500, 1000 - len(piece)} {
				list := slices.Concat(filler(long), piece, filler(1000-long-len(piece)))
				wantCode(t, list, code, long+len(piece)-1)
				wantPromise14(t, list)
				wantCode(t, slices.Concat(list, make([]impl.Inst, 1001-len(list))), impl.SureMany, 0)
			}
		}
	}
}

// Each of these pieces has its one code alone.
func TestWrongPieces(t *testing.T) {
	for code, pieces := range wrongPieces {
		for _, words := range pieces {
			piece := short(words)
			if codes := slowCodes(piece, len(piece)-1); !slices.Equal(codes, []int{code}) {
				t.Errorf("%s: %v", words, codes)
			}
		}
	}
}

// Of several codes at one instruction the first is told.
func TestPromise14SeveralCodes(t *testing.T) {
	for words, codes := range map[string][]int{
		"and?":                {2, 3},
		"16*ld ld?":           {2, 4},
		"2*ld coil?":          {2, 5},
		"2*ld mps?":           {2, 5},
		"ld coil or?":         {2, 6},
		"ld mps inv?":         {2, 6},
		"ld coil ld orb?":     {2, 6},
		"ld 8*mps mps?":       {2, 7},
		"ld mps coil end?":    {2, 7},
		"ld mps mpp?":         {2, 8},
		"ld end?":             {2, 8},
		"end?":                {2, 3, 8},
		"mpp?":                {2, 3, 7, 8},
		"2*ld mrd?":           {2, 5, 7, 8},
		"ld 8*mps ld mps?":    {2, 5, 7},
		"ld mrd?":             {2, 7, 8},
		"end":                 {3, 8},
		"mrd":                 {3, 7, 8},
		"mpp":                 {3, 7, 8},
		"ld coil end mpp":     {3, 7, 8},
		"2*ld end":            {5, 8},
		"ld mps ld mrd":       {5, 8},
		"ld 8*mps ld mps":     {5, 7},
		"2*ld mpp":            {5, 7, 8},
		"ld mps ld end":       {5, 7, 8},
		"ld mrd":              {7, 8},
		"ld mpp":              {7, 8},
		"ld mps end":          {7, 8},
		"ld mps coil mpp mpp": {7, 8},
	} {
		list := short(words)
		if got := slowCodes(list, len(list)-1); !slices.Equal(got, codes) {
			t.Errorf("%s: %v, not %v", words, got, codes)
		}
		wantSure(t, list, codes[0], len(list)-1)
	}
}

// All lists with one wrong instruction at most, at their end, from the beginning and from near each limit; the pairs of codes that meet are those that can.
func TestPromise12And14Grown(t *testing.T) {
	pairs := map[[2]int]bool{}
	found := map[int]int{}
	look := func(list []impl.Inst) {
		wantList(t, list)
		found[impl.SureCheck(list).Code]++
		if len(list) == 0 {
			return
		}
		codes := slowCodes(list, len(list)-1)
		for i, first := range codes {
			for _, second := range codes[i+1:] {
				pairs[[2]int{first, second}] = true
			}
		}
	}
	grown(nil, 5, look)
	for _, words := range []string{"15*ld", "16*ld", "ld coil 14*ld", "ld coil end 15*ld", "ld 7*mps", "ld 8*mps", "ld 7*mps coil", "ld coil end ld 8*mps coil mpp", "ld mps coil", "ld coil", "ld mps coil mpp coil end"} {
		grown(short(words), 3, look)
	}
	want := [][2]int{{2, 3}, {2, 4}, {2, 5}, {2, 6}, {2, 7}, {2, 8}, {3, 7}, {3, 8}, {5, 7}, {5, 8}, {7, 8}}
	for _, pair := range want {
		if !pairs[pair] {
			t.Errorf("no instruction has the codes %v", pair)
		}
	}
	if len(pairs) != len(want) {
		t.Errorf("pairs %v", pairs)
	}
	for code := range 10 {
		if (found[code] > 0) == (code == 1) {
			t.Errorf("code %d is told %d times", code, found[code])
		}
	}
}

// All lists of a few instructions, with whatever behind what is wrong.
func TestPromise12And14Small(t *testing.T) {
	for n := range 4 {
		tuples(shortInsts(), n, func(list []impl.Inst) { wantList(t, list) })
	}
}

// Promises 12 to 14, of lists made by dice, most of them not verified, and of verified lists with one thing changed.
func TestPromise12To14Made(t *testing.T) {
	for _, bad := range []int{0, 100} {
		m := newMaker(uint64(bad)+81, bad)
		for long := range 200 {
			wantList(t, m.list(long))
			list := slices.Concat(short("ld"), m.list(4))
			wantList(t, list)
		}
		wantList(t, m.list(1000))
		wantList(t, m.list(1001))
	}
	m := newMaker(91, 0)
	for n := range 120 {
		list := m.verified(3 + n)
		wantSure(t, list, 0, 0)
		for range 5 {
			at := m.below(len(list))
			wantList(t, slices.Delete(slices.Clone(list), at, at+1))
			wantList(t, slices.Insert(slices.Clone(list), at, m.inst()))
			other := slices.Clone(list)
			other[at] = m.inst()
			wantList(t, other)
			wantList(t, list[:at])
			wantList(t, list[at:])
		}
	}
}

// Verified lists made by dice are what they are meant to be: all Codes are there, many bits and many forks.
func TestVerifiedByDice(t *testing.T) {
	m := newMaker(92, 0)
	var peak impl.SureState
	codes := map[int]bool{}
	for range 10 {
		list := m.verified(400)
		if got := slowSure(list); got != (impl.SureFault{}) || len(list) != 400 {
			t.Errorf("%d instructions, %v", len(list), got)
		}
		for _, i := range list {
			codes[i.Code] = true
		}
		high := slowPeak(list)
		peak.Bits, peak.Forks = max(peak.Bits, high.Bits), max(peak.Forks, high.Forks)
	}
	if len(codes) != len(codeRows) || peak.Bits < 4 || peak.Forks < 3 {
		t.Errorf("%d Codes, peaks %v", len(codes), peak)
	}
}

// Promise 13: one behind the other, in all orders, up to 1000 instructions and beyond.
func TestPromise13Joined(t *testing.T) {
	m := newMaker(93, 0)
	all := [][]impl.Inst{nil, short("ld coil end"), short("ld or inv coil end"), short("ld mps coil mpp coil end"), short("2*ld orb mps coil mrd and coil mpp coil end ld coil end")}
	for _, long := range []int{3, 4, 10, 40, 330, 500, 501, 997, 999, 1000} {
		all = append(all, m.verified(long))
	}
	for _, a := range all {
		wantSure(t, a, 0, 0)
		for _, b := range all {
			joined := slices.Concat(a, b)
			if len(joined) > 1000 {
				wantSure(t, joined, impl.SureMany, 0)
				continue
			}
			wantSure(t, joined, 0, 0)
			rungs := slices.Concat(impl.SureRungs(a), impl.SureRungs(b))
			if got := impl.SureRungs(joined); fmt.Sprint(got) != fmt.Sprint(rungs) {
				t.Errorf("the rungs of %.500s and %.500s together are %.500s", shownList(a), shownList(b), fmt.Sprint(got))
			}
		}
	}
	for times := range 335 {
		list := slices.Repeat(short("ld coil end"), times)
		code := 0
		if len(list) > 1000 {
			code = impl.SureMany
		}
		if got := impl.SureCheck(list); got != (impl.SureFault{Code: code}) || len(impl.SureRungs(list)) != times*(1-code) {
			t.Errorf("%d rungs: %v, %d", times, got, len(impl.SureRungs(list)))
		}
	}
}

// Promise 13: the rungs of a list, none, one and several; and none of a list that is not verified, by any code.
func TestPromise13Rungs(t *testing.T) {
	for words, longs := range map[string][]int{
		"":                        nil,
		"ld coil end":             {3},
		"ld coil coil end":        {4},
		"ld coil end ld coil end": {3, 3},
		"ld mps coil mpp coil end ld coil end 2*ld orb inv coil end": {6, 3, 6},
		"ld 998*coil end":               {1000},
		"ld 994*coil end ld 2*coil end": {996, 4},
	} {
		list := short(words)
		var got []int
		for _, one := range impl.SureRungs(list) {
			got = append(got, len(one))
		}
		if !slices.Equal(got, longs) {
			t.Errorf("the rungs of %q have %v instructions, not %v", words, got, longs)
		}
		wantSure(t, list, 0, 0)
	}
	for _, words := range []string{"ld", "ld coil", "end", "what", "ld coil end what", "ld coil end ld", "ld coil end ld coil", "ld coil end ld end", "ld coil end end", "ld mps coil end ld coil end", "17*ld", "2*ld coil end", "ld coil inv coil end", "ld coil mpp coil end", "ld 999*coil end", "and ld coil end"} {
		if got := impl.SureRungs(short(words)); len(got) != 0 {
			t.Errorf("the rungs of %q are %v", words, got)
		}
		wantList(t, short(words))
	}
	if got := impl.SureRungs(nil); len(got) != 0 {
		t.Errorf("the rungs of nothing are %v", got)
	}
}

// Promise 14: the same beginning, up to the instruction that is told, with everything that may stand behind it.
func TestPromise14Behind(t *testing.T) {
	var told [][]impl.Inst
	for _, pieces := range wrongPieces {
		for _, words := range pieces {
			told = append(told, short(words), slices.Concat(short("ld or mps coil mpp coil end"), short(words)))
		}
	}
	m := newMaker(94, 300)
	for _, list := range told {
		fault := impl.SureCheck(list)
		if fault.At != len(list)-1 {
			t.Errorf("%v: %v", list, fault)
		}
		look := func(tail []impl.Inst) {
			if got := impl.SureCheck(slices.Concat(list, tail)); got != fault {
				t.Errorf("%v: %v, but %v with %.500s behind it", list, fault, got, shownList(tail))
			}
		}
		for n := range 3 {
			tuples(shortInsts(), n, look)
		}
		for long := range 30 {
			look(m.list(long))
		}
		look(m.list(1000 - len(list)))
		look(make([]impl.Inst, 1000-len(list)))
		if got := impl.SureCheck(slices.Concat(list, make([]impl.Inst, 1001-len(list)))); got != (impl.SureFault{Code: impl.SureMany}) {
			t.Errorf("%v: %v of 1001 instructions", list, got)
		}
	}
}

// The heights go by the Codes alone, whatever One is, below 0 too, and Codes that are none leave them.
func TestSureTrace(t *testing.T) {
	for words, want := range map[string][]impl.SureState{
		"":                                       nil,
		"ld":                                     {{Bits: 1}},
		"ld?":                                    {{Bits: 1}},
		"anb":                                    {{Bits: -1}},
		"orb":                                    {{Bits: -1}},
		"end":                                    {{Bits: -1}},
		"end?":                                   {{Bits: -1}},
		"mps":                                    {{Forks: 1}},
		"mpp":                                    {{Forks: -1}},
		"mpp? mpp":                               {{Forks: -1}, {Forks: -2}},
		"and or inv mrd coil what":               {{}, {}, {}, {}, {}, {}},
		"3*end 2*ld 2*mpp mps":                   {{Bits: -1}, {Bits: -2}, {Bits: -3}, {Bits: -2}, {Bits: -1}, {Bits: -1, Forks: -1}, {Bits: -1, Forks: -2}, {Bits: -1, Forks: -1}},
		"ld what? ld anb? mps mrd coil? mpp end": {{Bits: 1}, {Bits: 1}, {Bits: 2}, {Bits: 1}, {Bits: 1, Forks: 1}, {Bits: 1, Forks: 1}, {Bits: 1, Forks: 1}, {Bits: 1}, {}},
	} {
		if got := impl.SureTrace(short(words)); !slices.Equal(got, want) {
			t.Errorf("SureTrace of %q = %v, not %v", words, got, want)
		}
		wantHeights(t, short(words))
	}
	for _, code := range notCodes {
		wantHeights(t, []impl.Inst{{Code: 1}, {Code: code}, {Code: 7}, {Code: code, One: elem("X0")}})
	}
	m := newMaker(95, 500)
	for long := range 100 {
		wantHeights(t, m.list(long))
	}
}

// The heights of the most instructions there may be, far beyond what a list that is verified may have; and none of one more.
func TestSureTraceMany(t *testing.T) {
	for _, word := range []string{"ld", "anb", "orb", "end", "mps", "mpp", "coil", "what"} {
		list := slices.Repeat(short(word), 1001)
		once := heights(list[:1])
		got := impl.SureTrace(list[:1000])
		if len(got) != 1000 || got[999] != (impl.SureState{Bits: 1000 * once.Bits, Forks: 1000 * once.Forks}) {
			t.Errorf("1000 of %s: %d heights", word, len(got))
		}
		wantHeights(t, list[:999])
		wantHeights(t, list[:1000])
		if got := impl.SureTrace(list); len(got) != 0 {
			t.Errorf("1001 of %s: %d heights", word, len(got))
		}
		if got := impl.SurePeak(list); got != (impl.SureState{}) {
			t.Errorf("1001 of %s: peak %v", word, got)
		}
		if got, want := impl.SurePeak(list[:1000]), (impl.SureState{Bits: max(0, 1000*once.Bits), Forks: max(0, 1000*once.Forks)}); got != want {
			t.Errorf("1000 of %s: peak %v, not %v", word, got, want)
		}
	}
}

// The peaks of the two stacks need not be at one place, and are never below 0.
func TestSurePeak(t *testing.T) {
	for words, want := range map[string]impl.SureState{
		"":                               {},
		"end":                            {},
		"3*anb 2*mpp":                    {},
		"end ld end ld":                  {},
		"mpp mps mpp mps":                {},
		"and coil what what?":            {},
		"2*mpp 2*ld":                     {Bits: 2},
		"2*end mps":                      {Forks: 1},
		"2*end 3*ld":                     {Bits: 1},
		"3*ld 2*anb mps mpp":             {Bits: 3, Forks: 1},
		"mps mps mpp mpp ld":             {Bits: 1, Forks: 2},
		"ld? mps?":                       {Bits: 1, Forks: 1},
		"ld coil end ld ld orb coil end": {Bits: 2},
		"20*ld 20*mps 50*end":            {Bits: 20, Forks: 20},
	} {
		if got := impl.SurePeak(short(words)); got != want {
			t.Errorf("SurePeak of %q = %v, not %v", words, got, want)
		}
		wantHeights(t, short(words))
	}
}

// The document's example is verified, and needs 3 bits and 1 fork.
func TestSureExample(t *testing.T) {
	list := listOf("ld X0", "and X1", "ld X2", "ld X3", "or X4", "inv", "anb", "orb", "coil out:Y0", "mps", "and X5", "coil out:Y1", "mrd", "ld X6", "or X7", "anb", "coil out:Y2", "and X8", "coil set:M1", "mpp", "coil reset:M1", "end")
	wantSure(t, list, 0, 0)
	if got := impl.SurePeak(list); got != (impl.SureState{Bits: 3, Forks: 1}) {
		t.Errorf("peak %v", got)
	}
}

// The lists that are handed in stay as they were, what stands behind their ends too; each answer is new memory.
func TestSureMemory(t *testing.T) {
	m := newMaker(96, 0)
	lists := [][]impl.Inst{nil, short("ld coil end"), short("ld mps coil mpp coil end 2*ld orb inv coil end"), slices.Repeat(short("ld coil end"), 333), m.list(20), m.verified(50), m.verified(300)}
	for _, plain := range lists {
		for _, list := range [][]impl.Inst{copiedList(plain), slices.Clone(plain), copiedList(append(slices.Clone(plain), short("ld coil end")...))[:len(plain)]} {
			want, before := fmt.Sprint(slowRungs(list)), whole(list)
			trace, rungs := impl.SureTrace(list), impl.SureRungs(list)
			impl.SureCheck(list)
			impl.SurePeak(list)
			if whole(list) != before {
				t.Errorf("a list was written into: %.500s", shownList(list))
			}
			wantApart(t, list, trace)
			wantApart(t, list, rungs)
			wantApart(t, rungs, impl.SureRungs(list))
			wantApart(t, trace, impl.SureTrace(list))
			spoil(reflect.ValueOf(trace))
			spoil(reflect.ValueOf(rungs))
			if got := fmt.Sprint(impl.SureRungs(list)); whole(list) != before || got != want {
				t.Errorf("the answers share memory: %.500s, %.500s", shownList(list), got)
			}
			wantHeights(t, list)
		}
	}
}

// A call leaves nothing behind: what was refused ahead of it does not show.
func TestSureKeepsNothing(t *testing.T) {
	good := short("ld or mps coil mpp coil end")
	for _, words := range []string{"ld coil", "16*ld", "ld 8*mps", "17*ld", "what", "ld coil inv", "1001*ld", "ld 999*coil"} {
		impl.SureCheck(short(words))
		impl.SureTrace(short(words))
		impl.SurePeak(short(words))
		impl.SureRungs(short(words))
		wantSure(t, good, 0, 0)
	}
}

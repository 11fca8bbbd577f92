package tests

import (
	"slices"
	"strconv"
	"strings"

	"loop.example/stilway/impl"
)

// short reads a list from words alone, each with a contact or coil if it takes one: `16*ld` is sixteen of them, a `?` behind a word spoils what it takes, and `what` is no word.
func short(words string) []impl.Inst {
	var out []impl.Inst
	for _, word := range strings.Fields(words) {
		times := 1
		if count, one, found := strings.Cut(word, "*"); found {
			times, _ = strconv.Atoi(count)
			word = one
		}
		plain := strings.TrimSuffix(word, "?")
		out = append(out, slices.Repeat([]impl.Inst{shortInst(plain, plain != word)}, times)...)
	}
	return out
}

func shortInst(word string, spoiled bool) impl.Inst {
	if word == "what" {
		return impl.Inst{Code: 12, One: map[bool]impl.Elem{true: elem("X0")}[spoiled]}
	}
	row := codeRows[slices.IndexFunc(codeRows, func(row codeRow) bool { return row.word == word })]
	ones := map[string]impl.Elem{"contact": elem("X0"), "coil": elem("out:Y0")}
	if spoiled {
		ones = map[string]impl.Elem{"contact": elem("out:Y0"), "coil": elem("X0"), "": elem("X0")}
	}
	return impl.Inst{Code: row.code, One: ones[row.takes]}
}

// shortInsts are all Codes, and instructions that are not ok by their Code, by what they take, and by both.
func shortInsts() []impl.Inst {
	return short("ld and or anb orb inv mps mrd mpp coil end what what? ld? orb? mpp? coil? end?")
}

// heights is how high the stacks are behind a list, by counting its Codes.
func heights(list []impl.Inst) impl.SureState {
	var count [12]int
	for _, i := range list {
		if codeRowOf(i.Code).word != "" {
			count[i.Code]++
		}
	}
	return impl.SureState{Bits: count[1] - count[4] - count[5] - count[11], Forks: count[7] - count[9]}
}

func hasCode(list []impl.Inst, words ...string) bool {
	return slices.ContainsFunc(list, func(i impl.Inst) bool { return isCode(i, words...) })
}

func isCode(i impl.Inst, words ...string) bool {
	return slices.Contains(words, codeRowOf(i.Code).word)
}

// rungSoFar is the end of a list that belongs to the rung of what may stand behind it.
func rungSoFar(list []impl.Inst) []impl.Inst {
	from := len(list)
	for from > 0 && !isCode(list[from-1], "end") {
		from--
	}
	return list[from:]
}

// slowCodes is all that is wrong with the instruction at a place, told once more.
func slowCodes(list []impl.Inst, at int) []int {
	i, ahead := list[at], heights(list[:at])
	seen := hasCode(rungSoFar(list[:at]), "coil", "mps")
	behindCoil := at > 0 && isCode(list[at-1], "coil")
	needs := 1
	if isCode(i, "ld") {
		needs = 0
	} else if isCode(i, "anb", "orb") {
		needs = 2
	}
	var out []int
	for code, applies := range []bool{
		2: !slowOk(i),
		3: ahead.Bits < needs,
		4: isCode(i, "ld") && ahead.Bits >= 16,
		5: isCode(i, "mps", "mrd", "mpp", "coil", "end") && ahead.Bits > 1,
		6: seen && (isCode(i, "or", "inv") && ahead.Bits == 1 || isCode(i, "orb") && ahead.Bits == 2),
		7: isCode(i, "mps") && ahead.Forks >= 8 || isCode(i, "mrd", "mpp") && ahead.Forks == 0 || isCode(i, "end") && ahead.Forks != 0,
		8: isCode(i, "mrd", "mpp", "end") && !behindCoil,
	} {
		if applies {
			out = append(out, code)
		}
	}
	return out
}

// slowSure is SureCheck, told once more.
func slowSure(list []impl.Inst) impl.SureFault {
	if len(list) > 1000 {
		return impl.SureFault{Code: 1}
	}
	for at := range list {
		if codes := slowCodes(list, at); len(codes) > 0 {
			return impl.SureFault{Code: codes[0], At: at}
		}
	}
	if heights(list).Bits != 0 {
		return impl.SureFault{Code: 9, At: len(list)}
	}
	return impl.SureFault{}
}

// slowTrace is SureTrace, told once more.
func slowTrace(list []impl.Inst) []impl.SureState {
	var out []impl.SureState
	for at := range list {
		if len(list) <= 1000 {
			out = append(out, heights(list[:at+1]))
		}
	}
	return out
}

// slowPeak is SurePeak, told once more: each height by itself, with the beginning, where both are 0.
func slowPeak(list []impl.Inst) impl.SureState {
	bits, forks := []int{0}, []int{0}
	for _, state := range slowTrace(list) {
		bits, forks = append(bits, state.Bits), append(forks, state.Forks)
	}
	return impl.SureState{Bits: slices.Max(bits), Forks: slices.Max(forks)}
}

// slowRungs is SureRungs, told once more: cut off from the end.
func slowRungs(list []impl.Inst) [][]impl.Inst {
	if slowSure(list) != (impl.SureFault{}) {
		return nil
	}
	var out [][]impl.Inst
	for len(list) > 0 {
		last := rungSoFar(list[:len(list)-1])
		from := len(list) - 1 - len(last)
		out = append(out, list[from:])
		list = list[:from]
	}
	slices.Reverse(out)
	return out
}

// closing is what makes a list verified that has nothing wrong so far.
func closing(list []impl.Inst) []impl.Inst {
	high := heights(list)
	if high.Bits == 0 {
		return nil
	}
	return slices.Concat(slices.Repeat(short("anb"), high.Bits-1), short("coil"), slices.Repeat(short("mpp coil"), high.Forks), short("end"))
}

// verified makes a verified list of so many instructions by dice, 3 at least.
func (m *ladderMaker) verified(long int) []impl.Inst {
	var list []impl.Inst
	for len(list)+len(closing(list)) < long-6 {
		next := append(list, m.inst())
		// A rung mostly goes on, or none would come to be large.
		if isCode(next[len(list)], "end") && m.below(3) > 0 {
			continue
		}
		if len(slowCodes(next, len(list))) == 0 && len(next)+len(closing(next)) <= long-3 {
			list = next
		}
	}
	list = append(list, closing(list)...)
	return append(list, slices.Concat(short("ld"), slices.Repeat(short("coil"), long-len(list)-2), short("end"))...)
}

// grown calls with a list and with each that goes on by so many instructions at most, as long as nothing is wrong with it.
func grown(list []impl.Inst, most int, call func(list []impl.Inst)) {
	call(list)
	if most == 0 || len(list) > 0 && len(slowCodes(list, len(list)-1)) > 0 {
		return
	}
	for _, i := range shortInsts() {
		grown(append(slices.Clone(list), i), most-1, call)
	}
}

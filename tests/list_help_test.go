package tests

import (
	"cmp"
	"fmt"
	"math"
	"regexp"
	"slices"
	"strings"

	"loop.example/stilway/impl"
)

// codeRow is a row of the document's table of instructions, told here once more.
type codeRow struct {
	code  int
	word  string
	takes string
}

var codeRows = []codeRow{
	{1, "ld", "contact"},
	{2, "and", "contact"},
	{3, "or", "contact"},
	{4, "anb", ""},
	{5, "orb", ""},
	{6, "inv", ""},
	{7, "mps", ""},
	{8, "mrd", ""},
	{9, "mpp", ""},
	{10, "coil", "coil"},
	{11, "end", ""},
}

var notCodes = []int{math.MinInt, -1000, -12, -11, -10, -2, -1, 0, 12, 13, 14, 99, 256 + 1, 1000, math.MaxInt}

// codeRowOf is the row of a Code, or an empty one.
func codeRowOf(code int) codeRow {
	for _, row := range codeRows {
		if row.code == code {
			return row
		}
	}
	return codeRow{}
}

// slowOk is ListOk, told once more.
func slowOk(i impl.Inst) bool {
	is := fits(opRowOf(i.One.Op), i.One.Args)
	switch row := codeRowOf(i.Code); row.takes {
	case "contact":
		return is && i.One.Op <= 10
	case "coil":
		return is && i.One.Op >= 21
	default:
		return row.word != "" && isNothing(i.One)
	}
}

// slowLine is ListLine, told once more.
func slowLine(i impl.Inst) string {
	row := codeRowOf(i.Code)
	switch {
	case !slowOk(i):
		return ""
	case row.takes == "":
		return row.word
	}
	var texts []string
	for _, a := range i.One.Args {
		texts = append(texts, impl.DevText(a))
	}
	return row.word + " " + formText(opRowOf(i.One.Op).form, texts...)
}

// slowText is ListText, told once more.
func slowText(list []impl.Inst) string {
	text := ""
	for _, i := range list {
		text += slowLine(i) + "\n"
	}
	if len(list) > 1000 || !everyOk(list) {
		return ""
	}
	return text
}

func everyOk(list []impl.Inst) bool {
	return !slices.ContainsFunc(list, func(i impl.Inst) bool { return !slowOk(i) })
}

// lineShape is what a line of an instruction looks like: with a word that takes something, or with one that takes nothing.
var lineShape = regexp.MustCompile(`^ *(?:(ld|and|or|coil) +([^ ]+)|(anb|orb|inv|mps|mrd|mpp|end)) *$`)

// slowInst reads a line.
func slowInst(line string) (impl.Inst, bool) {
	parts := lineShape.FindStringSubmatch(line)
	if parts == nil {
		return impl.Inst{}, false
	}
	var i impl.Inst
	for _, row := range codeRows {
		if row.word == parts[1]+parts[3] {
			i.Code = row.code
		}
	}
	i.One, _ = readSlowly(parts[2])
	return i, slowOk(i)
}

// linesOf has the lines of a text, without their newlines; what is empty behind the last newline is no line.
func linesOf(text string) []string {
	var out []string
	for text != "" {
		end := slices.Index([]byte(text), '\n')
		if end < 0 {
			return append(out, text)
		}
		out = append(out, text[:end])
		text = text[end+1:]
	}
	return out
}

func hasWords(line string) bool { return strings.Count(line, " ") < len(line) }

// slowParse is ListParse, told once more: of all that is wrong the first, by its line and its code.
func slowParse(text string) ([]impl.Inst, impl.ListFault) {
	if len(text) > 50000 {
		return nil, impl.ListFault{Code: 1}
	}
	var list []impl.Inst
	var faults []impl.ListFault
	for at, line := range linesOf(text) {
		if !hasWords(line) {
			continue
		}
		i, ok := slowInst(line)
		if len(list) >= 1000 {
			faults = append(faults, impl.ListFault{Line: at + 1, Code: 3})
		}
		if !ok {
			faults = append(faults, impl.ListFault{Line: at + 1, Code: 2})
		}
		list = append(list, i)
	}
	if len(faults) == 0 {
		return list, impl.ListFault{}
	}
	return nil, slices.MinFunc(faults, func(a, b impl.ListFault) int {
		return cmp.Or(cmp.Compare(a.Line, b.Line), cmp.Compare(a.Code, b.Code))
	})
}

// listOf reads lists, an instruction each line.
func listOf(lines ...string) []impl.Inst {
	var out []impl.Inst
	for _, line := range lines {
		i, ok := slowInst(line)
		if !ok {
			panic("no instruction: " + line)
		}
		out = append(out, i)
	}
	return out
}

// shownList is a list in full; lists that are the same, and no others, are shown alike.
func shownList(list []impl.Inst) string { return fmt.Sprint(list) }

// copiedList is a list in memory of its own, with room behind the ends.
func copiedList(list []impl.Inst) []impl.Inst {
	return append(make([]impl.Inst, 0, len(list)+2), each(list, func(i impl.Inst) impl.Inst {
		return impl.Inst{Code: i.Code, One: copiedElem(i.One)}
	})...)
}

// poolElems are contacts and coils that are ok, every Op with all operands of the pool that it takes.
func poolElems() []impl.Elem {
	var out []impl.Elem
	for i := range opRows {
		tuples(poolTexts(), opRows[i].arity(), func(texts []string) {
			e := impl.Elem{Op: opRows[i].op}
			for _, text := range texts {
				e.Args = append(e.Args, pool[text])
			}
			if fits(&opRows[i], e.Args) {
				out = append(out, e)
			}
		})
	}
	return out
}

// poolInsts are instructions that are ok, every Code with all of poolElems that it takes.
func poolInsts() []impl.Inst {
	elems := append(poolElems(), impl.Elem{})
	var out []impl.Inst
	for _, row := range codeRows {
		for _, e := range elems {
			if i := (impl.Inst{Code: row.code, One: e}); slowOk(i) {
				out = append(out, i)
			}
		}
	}
	return out
}

// inst makes an instruction by dice.
func (m *ladderMaker) inst() impl.Inst {
	row := pick(&m.dice, codeRows)
	i := impl.Inst{Code: row.code}
	switch {
	case row.takes == "contact":
		i.One = m.elem(m.contacts, m.coils)
	case row.takes == "coil":
		i.One = m.elem(m.coils, m.contacts)
	case m.isBad():
		i.One = pick(&m.dice, slices.Concat(badElems, m.contacts, m.coils))
	}
	if m.isBad() {
		i.Code = m.below(16) - 2
	}
	return i
}

// list makes a list by dice.
func (m *ladderMaker) list(long int) []impl.Inst {
	var out []impl.Inst
	for range long {
		out = append(out, m.inst())
	}
	return out
}

// loose is a text of lines, with spaces and lines without words put in by dice; of bad lines in a thousand each is one sign off.
func (m *ladderMaker) loose(lines []string) string {
	spaces := func() string { return strings.Repeat(" ", max(0, m.below(6)-3)) }
	text := ""
	for _, line := range lines {
		for m.below(6) == 0 {
			text += spaces() + "\n"
		}
		line = spaces() + strings.ReplaceAll(line, " ", " "+spaces()) + spaces()
		if m.isBad() {
			at := m.below(len(line) + 1)
			line = line[:at] + pick(&m.dice, []string{" ", "\t", "\r", "\n", ":", "0", "X", "l", "\x00", "\xff", "\u00a0", " X0 ", " end "}) + line[at:]
		}
		text += line + "\n"
	}
	return strings.TrimSuffix(text, "\n") + pick(&m.dice, []string{"", "\n", "\n\n", "\n ", " \n\n  \n"})
}

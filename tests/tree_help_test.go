package tests

import (
	"cmp"
	"fmt"
	"reflect"
	"slices"
	"strings"
	"testing"

	"loop.example/stilway/impl"
)

// ladderReader reads ladders in the writing of the document's example.
type ladderReader struct {
	words []string
}

func (r *ladderReader) peek() string {
	if len(r.words) == 0 {
		return ""
	}
	return r.words[0]
}

func (r *ladderReader) next() string {
	word := r.peek()
	if word == "" {
		panic("a ladder's writing ends too early")
	}
	r.words = r.words[1:]
	return word
}

func (r *ladderReader) net() impl.Net {
	word := r.next()
	kind := map[string]int{"and(": impl.NetAnd, "or(": impl.NetOr, "not(": impl.NetNot}[word]
	if kind == 0 {
		return impl.Net{Kind: impl.NetContact, One: elem(word)}
	}
	n := impl.Net{Kind: kind}
	for r.peek() != ")" {
		n.Kids = append(n.Kids, r.net())
	}
	r.next()
	return n
}

func (r *ladderReader) arm() impl.Arm {
	var arm impl.Arm
	if r.peek() != "->" {
		arm.Net = r.net()
	}
	if word := r.next(); word != "->" {
		panic("no -> but " + word)
	}
	for !strings.Contains("[|]", r.peek()) {
		arm.Coils = append(arm.Coils, elem(r.next()))
	}
	if r.peek() != "[" {
		return arm
	}
	for r.next() != "]" {
		arm.Kids = append(arm.Kids, r.arm())
		if !strings.Contains("|]", r.peek()) {
			panic("no | and no ] but " + r.peek())
		}
	}
	return arm
}

// elem is the contact or coil of a text.
func elem(text string) impl.Elem {
	e, ok := impl.ElemRead(text)
	if !ok {
		panic("no contact or coil: " + text)
	}
	return e
}

// ladder reads a ladder, a rung each text.
func ladder(rungs ...string) []impl.Arm {
	var out []impl.Arm
	for _, text := range rungs {
		r := &ladderReader{strings.Fields(text)}
		out = append(out, r.arm())
		if len(r.words) > 0 {
			panic("behind the rung " + text + " stands " + r.peek())
		}
	}
	return out
}

// netOf reads a net.
func netOf(text string) impl.Net {
	r := &ladderReader{strings.Fields(text)}
	n := r.net()
	if len(r.words) > 0 {
		panic("behind the net " + text + " stands " + r.peek())
	}
	return n
}

func net(kind int, kids ...impl.Net) impl.Net { return impl.Net{Kind: kind, Kids: kids} }

func contact(e impl.Elem) impl.Net { return impl.Net{Kind: impl.NetContact, One: e} }

// shown is a ladder in full; ladders that are the same, and no others, are shown alike.
func shown(rungs []impl.Arm) string { return fmt.Sprint(rungs) }

func isNothing(e impl.Elem) bool { return fmt.Sprint(e) == "{0 []}" }

func isNone(n impl.Net) bool { return fmt.Sprint(n) == "{0 {0 []} []}" }

// slowSize is TreeSize, told once more.
func slowSize(rungs []impl.Arm) int {
	var parts func(n impl.Net) int
	parts = func(n impl.Net) int {
		sum := 1
		for _, kid := range n.Kids {
			sum += parts(kid)
		}
		return sum
	}
	sum := 0
	for _, arm := range rungs {
		sum += 1 + len(arm.Coils) + slowSize(arm.Kids)
		if !isNone(arm.Net) {
			sum += parts(arm.Net)
		}
	}
	return sum
}

// told is one of all the things that are wrong with a ladder, with where it is: the arm by the places on the way to it, then which row of the document's table, then the net or the coil by its places.
type told struct {
	arm  []int
	row  int
	part []int
	code int
}

func compareTold(a, b told) int {
	return cmp.Or(slices.Compare(a.arm, b.arm), cmp.Compare(a.row, b.row), slices.Compare(a.part, b.part))
}

// further is a way with one place more, in new memory.
func further(way []int, place int) []int { return append(slices.Clone(way), place) }

func netFaults(n impl.Net, at told) []told {
	var out []told
	isContact := n.Kind == 1
	switch {
	case isContact && len(n.Kids) > 0, !isContact && (n.Kind < 2 || n.Kind > 4 || !isNothing(n.One) || len(n.Kids) == 0), n.Kind == 4 && len(n.Kids) != 1:
		out = append(out, told{at.arm, at.row, at.part, 2})
	case isContact && (!fits(opRowOf(n.One.Op), n.One.Args) || n.One.Op > 10):
		out = append(out, told{at.arm, at.row, at.part, 3})
	}
	for i, kid := range n.Kids {
		out = append(out, netFaults(kid, told{arm: at.arm, row: at.row, part: further(at.part, i)})...)
	}
	return out
}

func armFaults(arm impl.Arm, way []int) []told {
	var out []told
	none := isNone(arm.Net)
	if none && len(way) == 1 {
		out = append(out, told{way, 0, nil, 4})
	}
	if !none {
		out = append(out, netFaults(arm.Net, told{arm: way, row: 1})...)
	}
	for i, coil := range arm.Coils {
		if !fits(opRowOf(coil.Op), coil.Args) || coil.Op < 21 {
			out = append(out, told{way, 2, []int{i}, 3})
		}
	}
	if len(arm.Coils)+len(arm.Kids) == 0 {
		out = append(out, told{way, 3, nil, 5})
	}
	for i, kid := range arm.Kids {
		out = append(out, armFaults(kid, further(way, i))...)
	}
	return out
}

// slowCheck is TreeCheck, told once more: of all that is wrong the first, by where it is.
func slowCheck(rungs []impl.Arm) impl.TreeFault {
	if len(rungs) > 40 || slowSize(rungs) > 400 {
		return impl.TreeFault{Code: 1}
	}
	var all []told
	for i, rung := range rungs {
		all = append(all, armFaults(rung, []int{i})...)
	}
	if len(all) == 0 {
		return impl.TreeFault{}
	}
	first := slices.MinFunc(all, compareTold)
	return impl.TreeFault{Code: first.code, Rung: first.arm[0]}
}

// slowUses is TreeUses, told once more, of a ladder as it is shown: only an operand is there as three numbers in braces.
func slowUses(text string, a impl.DevArg) int { return strings.Count(text, fmt.Sprint(a)) }

// dice gives the same numbers in each run.
type dice struct {
	state uint64
}

func (d *dice) below(n int) int {
	d.state = d.state*6364136223846793005 + 1442695040888963407
	return int(d.state>>33) % n
}

func pick[T any](d *dice, from []T) T { return from[d.below(len(from))] }

// ladderMaker makes ladders by dice; of bad parts in a thousand each is wrong in some way.
type ladderMaker struct {
	dice
	bad      int
	contacts []impl.Elem
	coils    []impl.Elem
}

func newMaker(seed uint64, bad int) *ladderMaker {
	m := &ladderMaker{dice: dice{seed}, bad: bad}
	for _, text := range []string{"X0", "X1", "/X2", "/M3", "+X4:E5", "-T1:E6", "D1<D2", "-5<=D1", "R1=0.5", "nan<>R2", "C1>=3", "T0>D0", "G4", "S15"} {
		m.contacts = append(m.contacts, elem(text))
	}
	for _, text := range []string{"out:Y0", "set:M3", "reset:T1", "pulse:Y1,E7", "step:S3", "timer:T0,50", "hold:T1,0", "late:T2,32767", "count:C1,3", "move:D1,-5", "add:D1,D2,7", "sub:R1,R2,0.5", "mul:D1,D1,D1", "div:R1,inf,nan", "rem:D0,D1,D2", "real:R1,D1", "whole:D2,R2"} {
		m.coils = append(m.coils, elem(text))
	}
	return m
}

func (m *ladderMaker) isBad() bool { return m.below(1000) < m.bad }

// badElems are neither contacts nor coils.
var badElems = []impl.Elem{
	{}, {Op: 1}, {Op: 21}, {Op: 11, Args: []impl.DevArg{{Kind: 1}}}, {Args: []impl.DevArg{{Kind: 1}}}, {Op: 1, Args: []impl.DevArg{{Kind: 1, N: 32}}}, {Op: 1, Args: []impl.DevArg{{Kind: 1}, {Kind: 1}}},
	{Op: 1, Args: []impl.DevArg{{Kind: 9}}}, {Op: 21, Args: []impl.DevArg{{Kind: 1}}}, {Op: 5, Args: []impl.DevArg{{Kind: 9}, {Kind: 10}}}, {Op: -1, Args: []impl.DevArg{{Kind: 1}}}, {Op: 38, Args: []impl.DevArg{{Kind: 9}, {Kind: 12, P: 1}}},
}

func (m *ladderMaker) elem(from, other []impl.Elem) impl.Elem {
	if !m.isBad() {
		return pick(&m.dice, from)
	}
	if m.below(2) == 0 {
		return pick(&m.dice, other)
	}
	return pick(&m.dice, badElems)
}

func (m *ladderMaker) net(deep int) impl.Net {
	n := impl.Net{Kind: 1 + m.below(4)}
	if deep == 0 || m.below(3) == 0 {
		n.Kind = 1
	}
	kids := 1 + m.below(3)
	switch n.Kind {
	case 1:
		n.One, kids = m.elem(m.contacts, m.coils), 0
	case 4:
		kids = 1
	}
	if m.isBad() {
		return m.badNet(n, deep)
	}
	for range kids {
		n.Kids = append(n.Kids, m.net(deep-1))
	}
	return n
}

func (m *ladderMaker) badNet(n impl.Net, deep int) impl.Net {
	for range m.below(3) {
		n.Kids = append(n.Kids, m.net(max(deep-1, 0)))
	}
	switch m.below(4) {
	case 0:
		n.Kind = m.below(9) - 2
	case 1:
		n.One = m.elem(m.contacts, m.coils)
	case 2:
		return impl.Net{}
	}
	return n
}

func (m *ladderMaker) arm(deep int, rung bool) impl.Arm {
	var arm impl.Arm
	if rung != m.isBad() || m.below(4) > 0 {
		arm.Net = m.net(m.below(4))
	}
	for range m.below(3) {
		arm.Coils = append(arm.Coils, m.elem(m.coils, m.contacts))
	}
	if deep > 0 {
		for range m.below(4) {
			arm.Kids = append(arm.Kids, m.arm(deep-1, false))
		}
	}
	if len(arm.Coils)+len(arm.Kids) == 0 && !m.isBad() {
		arm.Coils = append(arm.Coils, m.elem(m.coils, m.contacts))
	}
	return arm
}

func (m *ladderMaker) ladder(rungs int) []impl.Arm {
	var out []impl.Arm
	for range rungs {
		out = append(out, m.arm(m.below(4), true))
	}
	return out
}

// copiedElem is a contact or coil in memory of its own, with room behind the end of its operands.
func copiedElem(e impl.Elem) impl.Elem {
	return impl.Elem{Op: e.Op, Args: append(make([]impl.DevArg, 0, len(e.Args)+2), e.Args...)}
}

// copied is a ladder in memory of its own, each list with room behind its end.
func copied(rungs []impl.Arm) []impl.Arm {
	elems := func(from ...impl.Elem) []impl.Elem {
		return append(make([]impl.Elem, 0, len(from)+2), each(from, copiedElem)...)
	}
	var nets func(from ...impl.Net) []impl.Net
	nets = func(from ...impl.Net) []impl.Net {
		out := make([]impl.Net, 0, len(from)+2)
		for _, n := range from {
			out = append(out, impl.Net{Kind: n.Kind, One: copiedElem(n.One), Kids: nets(n.Kids...)})
		}
		return out
	}
	out := make([]impl.Arm, 0, len(rungs)+2)
	for _, arm := range rungs {
		out = append(out, impl.Arm{Net: nets(arm.Net)[0], Coils: elems(arm.Coils...), Kids: copied(arm.Kids)})
	}
	return out
}

// whole is a value in full, with what stands behind the ends of its lists.
func whole(of any) string { return wholeOf(reflect.ValueOf(of)) }

func wholeOf(v reflect.Value) string {
	text := ""
	switch v.Kind() {
	case reflect.Struct:
		for i := range v.NumField() {
			text += wholeOf(v.Field(i)) + ","
		}
	case reflect.Slice:
		text = fmt.Sprint(v.Len(), v.Cap(), ":")
		for i := range v.Cap() {
			text += wholeOf(v.Slice(0, v.Cap()).Index(i)) + ";"
		}
	default:
		text = fmt.Sprint(v.Int())
	}
	return text
}

// The reader of these tests reads the document's example as it is meant.
func TestLadderWriting(t *testing.T) {
	x := func(n int) impl.Net {
		return contact(impl.Elem{Op: impl.ElemOpen, Args: []impl.DevArg{{Kind: impl.DevX, N: n}}})
	}
	coil := func(op, kind, n int) []impl.Elem {
		return []impl.Elem{{Op: op, Args: []impl.DevArg{{Kind: kind, N: n}}}}
	}
	want := []impl.Arm{{
		Net:   net(impl.NetOr, net(impl.NetAnd, x(0), x(1)), net(impl.NetAnd, x(2), net(impl.NetNot, net(impl.NetOr, x(3), x(4))))),
		Coils: coil(impl.ElemOut, impl.DevY, 0),
		Kids: []impl.Arm{
			{Net: x(5), Coils: coil(impl.ElemOut, impl.DevY, 1)},
			{Net: net(impl.NetOr, x(6), x(7)), Coils: coil(impl.ElemOut, impl.DevY, 2), Kids: []impl.Arm{{Net: x(8), Coils: coil(impl.ElemSet, impl.DevM, 1)}}},
			{Coils: coil(impl.ElemReset, impl.DevM, 1)},
		},
	}}
	if got := ladder(example); shown(got) != shown(want) || shown(copied(got)) != shown(want) {
		t.Errorf("%v is not %v", got, want)
	}
}

const example = "or( and( X0 X1 ) and( X2 not( or( X3 X4 ) ) ) ) -> out:Y0 [ X5 -> out:Y1 | or( X6 X7 ) -> out:Y2 [ X8 -> set:M1 ] | -> reset:M1 ]"

package tests

import (
	"cmp"
	"fmt"
	"reflect"
	"slices"
	"testing"

	"loop.example/stilway/impl"
)

// The tests' own telling of the normal form takes small steps, anywhere in a ladder, until none is left: a block of one kid goes, a block in a block of its own kind is opened, an arm takes its one kid in. Dice choose the step, as the order must not matter.

// isBlock says whether a net is a NetAnd or a NetOr.
func isBlock(n impl.Net) bool { return n.Kind == impl.NetAnd || n.Kind == impl.NetOr }

// isNow counts down to the step that is asked for.
func isNow(left *int) bool {
	*left--
	return *left == -1
}

// stepNet takes, in a net and the nets within it, the step of that number, counted from 0, and says whether there are so many.
func stepNet(n *impl.Net, left *int) bool {
	if isBlock(*n) && len(n.Kids) == 1 && isNow(left) {
		*n = n.Kids[0]
		return true
	}
	for i, kid := range n.Kids {
		if isBlock(*n) && kid.Kind == n.Kind && isNow(left) {
			n.Kids = slices.Concat(n.Kids[:i], kid.Kids, n.Kids[i+1:])
			return true
		}
	}
	for i := range n.Kids {
		if stepNet(&n.Kids[i], left) {
			return true
		}
	}
	return false
}

// stepArms is stepNet of arms and all that is in them, of a ladder that is accepted.
func stepArms(arms []impl.Arm, left *int) bool {
	for i := range arms {
		arm := &arms[i]
		if len(arm.Kids) == 1 && (len(arm.Coils) == 0 || arm.Kids[0].Net.Kind == 0) && isNow(left) {
			takeIn(arm, arm.Kids[0])
			return true
		}
		if stepNet(&arm.Net, left) || stepArms(arm.Kids, left) {
			return true
		}
	}
	return false
}

func takeIn(arm *impl.Arm, kid impl.Arm) {
	if arm.Net.Kind == 0 {
		arm.Net = kid.Net
	} else if kid.Net.Kind != 0 {
		arm.Net = net(impl.NetAnd, arm.Net, kid.Net)
	}
	arm.Coils = slices.Concat(arm.Coils, kid.Coils)
	arm.Kids = kid.Kids
}

// takeAll takes steps until none is left, and says how many it took.
func takeAll(d *dice, step func(left *int) bool) int {
	for taken := 0; ; taken++ {
		const most = 1 << 30
		left := most
		step(&left)
		if left == most {
			return taken
		}
		left = d.below(most - left)
		step(&left)
	}
}

// slowNorm is NormMake, told once more, of a ladder that is accepted, and how many steps that took.
func slowNorm(rungs []impl.Arm, d *dice) ([]impl.Arm, int) {
	out := copied(rungs)
	steps := takeAll(d, func(left *int) bool { return stepArms(out, left) })
	return out, steps
}

// slowNormNet is NormNet, told once more.
func slowNormNet(n impl.Net, d *dice) impl.Net {
	if len(netsOf(n)) > 400 || len(netFaults(n, told{})) > 0 {
		return impl.Net{}
	}
	out := copied([]impl.Arm{{Net: n}})[0].Net
	takeAll(d, func(left *int) bool { return stepNet(&out, left) })
	return out
}

// netsOf has a net and the nets within it.
func netsOf(n impl.Net) []impl.Net {
	out := []impl.Net{n}
	for _, kid := range n.Kids {
		out = append(out, netsOf(kid)...)
	}
	return out
}

// armsOf has arms and the arms within them.
func armsOf(arms []impl.Arm) []impl.Arm {
	var out []impl.Arm
	for _, arm := range arms {
		out = append(append(out, arm), armsOf(arm.Kids)...)
	}
	return out
}

// elemsOf has the contacts and coils of a ladder, from the left to the right.
func elemsOf(rungs []impl.Arm) []impl.Elem {
	var out []impl.Elem
	for _, arm := range armsOf(rungs) {
		for _, n := range netsOf(arm.Net) {
			if n.Kind == impl.NetContact {
				out = append(out, n.One)
			}
		}
		out = append(out, arm.Coils...)
	}
	return out
}

// replaced are copies of a list, each with one of its parts in another way.
func replaced[T any](from []T, ways func(one T) []T) [][]T {
	var out [][]T
	for i, one := range from {
		for _, way := range ways(one) {
			other := slices.Clone(from)
			other[i] = way
			out = append(out, other)
		}
	}
	return out
}

// backNets are nets from which one step leads to this one.
func backNets(n impl.Net) []impl.Net {
	out := []impl.Net{net(impl.NetAnd, n), net(impl.NetOr, n)}
	if isBlock(n) {
		for from := range n.Kids {
			for to := from + 1; to <= len(n.Kids); to++ {
				inner := []impl.Net{net(n.Kind, n.Kids[from:to]...)}
				out = append(out, net(n.Kind, slices.Concat(n.Kids[:from], inner, n.Kids[to:])...))
			}
		}
	}
	for _, kids := range replaced(n.Kids, backNets) {
		out = append(out, net(n.Kind, kids...))
	}
	return out
}

// backArms are arms from which one step, or a few where a net is cut in two, lead to this one; a rung keeps a net.
func backArms(arm impl.Arm, rung bool) []impl.Arm {
	var out []impl.Arm
	split := func(n impl.Net, coils []impl.Elem, kid impl.Arm) {
		if len(kid.Coils)+len(kid.Kids) > 0 {
			out = append(out, impl.Arm{Net: n, Coils: coils, Kids: []impl.Arm{kid}})
		}
	}
	for cut := 0; cut <= len(arm.Coils); cut++ {
		split(arm.Net, arm.Coils[:cut], impl.Arm{Coils: arm.Coils[cut:], Kids: arm.Kids})
	}
	if !rung {
		split(impl.Net{}, nil, arm)
	}
	if arm.Net.Kind == impl.NetAnd {
		for cut := 1; cut < len(arm.Net.Kids); cut++ {
			ahead, behind := net(impl.NetAnd, arm.Net.Kids[:cut]...), net(impl.NetAnd, arm.Net.Kids[cut:]...)
			split(ahead, nil, impl.Arm{Net: behind, Coils: arm.Coils, Kids: arm.Kids})
		}
	}
	if arm.Net.Kind != 0 {
		for _, n := range backNets(arm.Net) {
			out = append(out, impl.Arm{Net: n, Coils: arm.Coils, Kids: arm.Kids})
		}
	}
	for _, kids := range replaced(arm.Kids, func(kid impl.Arm) []impl.Arm { return backArms(kid, false) }) {
		out = append(out, impl.Arm{Net: arm.Net, Coils: arm.Coils, Kids: kids})
	}
	return out
}

// backLadders are ladders from which one step or a few lead to this one.
func backLadders(rungs []impl.Arm) [][]impl.Arm {
	return replaced(rungs, func(rung impl.Arm) []impl.Arm { return backArms(rung, true) })
}

// numbered gives each contact and each coil a device of its own, from the left to the right, so that none may take another's place.
func numbered(rungs []impl.Arm) []impl.Arm {
	out := copied(rungs)
	for i, e := range elemsOf(out) {
		e.Args[0].N = i % impl.DevSize(e.Args[0].Kind)
	}
	return out
}

// rightNets are all nets of so many nets with which nothing is wrong, each of the one contact X0.
func rightNets(parts int) []impl.Net {
	if parts == 1 {
		return []impl.Net{netOf("X0")}
	}
	var out []impl.Net
	for _, kids := range netLists(parts - 1) {
		out = append(out, net(impl.NetAnd, kids...), net(impl.NetOr, kids...))
		if len(kids) == 1 {
			out = append(out, net(impl.NetNot, kids...))
		}
	}
	return out
}

// netLists are all lists of such nets that have so many nets together.
func netLists(parts int) [][]impl.Net {
	if parts == 0 {
		return [][]impl.Net{nil}
	}
	var out [][]impl.Net
	for first := 1; first <= parts; first++ {
		for _, n := range rightNets(first) {
			for _, others := range netLists(parts - first) {
				out = append(out, slices.Concat([]impl.Net{n}, others))
			}
		}
	}
	return out
}

// rightArms are all trees of so many arms, each with one of the nets and one coil or none, that may be kids.
func rightArms(arms int, nets []impl.Net) []impl.Arm {
	var out []impl.Arm
	for _, kids := range armLists(arms-1, nets) {
		for _, n := range nets {
			if len(kids) > 0 {
				out = append(out, impl.Arm{Net: n, Kids: kids})
			}
			out = append(out, impl.Arm{Net: n, Coils: []impl.Elem{elem("out:Y0")}, Kids: kids})
		}
	}
	return out
}

// armLists are all lists of such trees that have so many arms together.
func armLists(arms int, nets []impl.Net) [][]impl.Arm {
	if arms == 0 {
		return [][]impl.Arm{nil}
	}
	var out [][]impl.Arm
	for first := 1; first <= arms; first++ {
		for _, arm := range rightArms(first, nets) {
			for _, others := range armLists(arms-first, nets) {
				out = append(out, slices.Concat([]impl.Arm{arm}, others))
			}
		}
	}
	return out
}

// chains are all rungs of so many arms, each but the first the one kid of another, with one of the nets and one coil or none.
func chains(arms int, nets []impl.Net) []impl.Arm {
	out := []impl.Arm{{Coils: []impl.Elem{elem("out:Y0")}}}
	for range arms {
		var longer []impl.Arm
		for _, kid := range out {
			for _, n := range nets {
				for _, coils := range [][]impl.Elem{nil, {elem("out:Y0")}} {
					longer = append(longer, impl.Arm{Net: n, Coils: coils, Kids: []impl.Arm{kid}})
				}
			}
		}
		out = longer
	}
	return out
}

// room is the memory of a list, from its first byte to behind its last, spare room included.
type room struct {
	from, to uintptr
	answer   bool
}

// roomsOf has the memory of all lists of a value, and of those that stand in the spare room of one if it is an answer.
func roomsOf(v reflect.Value, answer bool) []room {
	var out []room
	switch v.Kind() {
	case reflect.Struct:
		for i := range v.NumField() {
			out = append(out, roomsOf(v.Field(i), answer)...)
		}
	case reflect.Slice:
		if v.Cap() > 0 {
			out = append(out, room{v.Pointer(), v.Pointer() + uintptr(v.Cap())*v.Type().Elem().Size(), answer})
		}
		if answer {
			v = v.Slice(0, v.Cap())
		}
		for i := range v.Len() {
			out = append(out, roomsOf(v.Index(i), answer)...)
		}
	}
	return out
}

// wantApart holds an answer against its argument: no list of it shares memory with another one, or with the argument.
func wantApart(t *testing.T, argument, answer any) {
	t.Helper()
	rooms := append(roomsOf(reflect.ValueOf(argument), false), roomsOf(reflect.ValueOf(answer), true)...)
	slices.SortFunc(rooms, func(a, b room) int { return cmp.Compare(a.from, b.from) })
	var last, lastAnswer uintptr
	for _, r := range rooms {
		if r.from < lastAnswer || r.answer && r.from < last {
			t.Errorf("the lists of an answer share memory: %.500s", fmt.Sprint(answer))
			return
		}
		last = max(last, r.to)
		if r.answer {
			lastAnswer = max(lastAnswer, r.to)
		}
	}
}

// crowd is memory in which the lists of a ladder lie one behind the other, so that what is put behind the end of one is put into another.
type crowd struct {
	args  []impl.DevArg
	elems []impl.Elem
	nets  []impl.Net
	arms  []impl.Arm
}

func newCrowd(rungs []impl.Arm) *crowd {
	room := 3*slowSize(rungs) + 4
	return &crowd{make([]impl.DevArg, 0, room), make([]impl.Elem, 0, room), make([]impl.Net, 0, room), make([]impl.Arm, 0, room)}
}

// lay puts a list behind the others.
func lay[T any](lists *[]T, list []T) []T {
	if len(*lists)+len(list) > cap(*lists) {
		panic("the crowd is too large")
	}
	at := len(*lists)
	*lists = append(*lists, list...)
	return (*lists)[at:]
}

func (c *crowd) elem(e impl.Elem) impl.Elem {
	return impl.Elem{Op: e.Op, Args: lay(&c.args, e.Args)}
}

func (c *crowd) net(n impl.Net) impl.Net {
	var kids []impl.Net
	for _, kid := range n.Kids {
		kids = append(kids, c.net(kid))
	}
	return impl.Net{Kind: n.Kind, One: c.elem(n.One), Kids: lay(&c.nets, kids)}
}

func (c *crowd) ladder(rungs []impl.Arm) []impl.Arm {
	var arms []impl.Arm
	for _, arm := range rungs {
		crowded := impl.Arm{Net: c.net(arm.Net)}
		var coils []impl.Elem
		for _, coil := range arm.Coils {
			coils = append(coils, c.elem(coil))
		}
		crowded.Coils = lay(&c.elems, coils)
		crowded.Kids = c.ladder(arm.Kids)
		arms = append(arms, crowded)
	}
	return lay(&c.arms, arms)
}

// text is all of the crowd's memory.
func (c *crowd) text() string {
	return fmt.Sprint(c.args[:cap(c.args)], c.elems[:cap(c.elems)], c.nets[:cap(c.nets)], c.arms[:cap(c.arms)])
}

// alike is a ladder that has the same list wherever two of its lists are the same.
func alike(rungs []impl.Arm) []impl.Arm {
	args, coils, nets, arms := map[string][]impl.DevArg{}, map[string][]impl.Elem{}, map[string][]impl.Net{}, map[string][]impl.Arm{}
	one := func(e impl.Elem) impl.Elem { return impl.Elem{Op: e.Op, Args: shared(args, e.Args)} }
	var netOnce func(n impl.Net) impl.Net
	netOnce = func(n impl.Net) impl.Net {
		return impl.Net{Kind: n.Kind, One: one(n.One), Kids: shared(nets, each(n.Kids, netOnce))}
	}
	var armOnce func(arm impl.Arm) impl.Arm
	armOnce = func(arm impl.Arm) impl.Arm {
		return impl.Arm{Net: netOnce(arm.Net), Coils: shared(coils, each(arm.Coils, one)), Kids: shared(arms, each(arm.Kids, armOnce))}
	}
	return each(rungs, armOnce)
}

func shared[T any](known map[string][]T, list []T) []T {
	text := fmt.Sprint(list)
	if _, found := known[text]; !found {
		known[text] = list
	}
	return known[text]
}

func each[T any](from []T, form func(one T) T) []T {
	var out []T
	for _, one := range from {
		out = append(out, form(one))
	}
	return out
}

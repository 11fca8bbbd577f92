package tests

import (
	"fmt"
	"hash/fnv"
	"slices"
	"strings"
	"testing"

	"loop.example/stilway/impl"
)

// lines reads a list, with `; ` between its instructions.
func lines(text string) []impl.Inst {
	if text == "" {
		return nil
	}
	return listOf(strings.Split(text, "; ")...)
}

// instOf is the instruction of a word, with its contact or coil.
func instOf(word string, one impl.Elem) impl.Inst {
	at := slices.IndexFunc(codeRows, func(row codeRow) bool { return row.word == word })
	return impl.Inst{Code: codeRows[at].code, One: one}
}

// The tests' own telling of the way down knows contacts by their length alone: what begins by one instruction is taken in by one, with another word.

// slowBegin is how a net in normal form begins.
func slowBegin(n impl.Net) []impl.Inst {
	switch n.Kind {
	case 1:
		return []impl.Inst{instOf("ld", n.One)}
	case 4:
		return append(slowBegin(n.Kids[0]), instOf("inv", impl.Elem{}))
	}
	out := slowBegin(n.Kids[0])
	for _, kid := range n.Kids[1:] {
		word := map[int]string{2: "and", 3: "or"}[n.Kind]
		begun := slowBegin(kid)
		if len(begun) == 1 {
			out = append(out, instOf(word, begun[0].One))
			continue
		}
		out = append(append(out, begun...), instOf(word[:2]+"b", impl.Elem{}))
	}
	return out
}

// slowBehind is a net behind what has come: as if a contact came, and the two began as one, without the contact.
func slowBehind(n impl.Net) []impl.Inst {
	if n.Kind == 0 {
		return nil
	}
	return slowBegin(slowNormNet(net(impl.NetAnd, netOf("X0"), n), &dice{1}))[1:]
}

// slowTail is the tail of an arm in normal form.
func slowTail(arm impl.Arm) []impl.Inst {
	var out []impl.Inst
	for _, coil := range arm.Coils {
		out = append(out, instOf("coil", coil))
	}
	forks := slowForks(len(arm.Kids))
	for i, kid := range arm.Kids {
		out = slices.Concat(out, forks[i], slowBehind(kid.Net), slowTail(kid))
	}
	return out
}

// slowForks is what stands ahead of each of so many kids.
func slowForks(kids int) [][]impl.Inst {
	forks := make([][]impl.Inst, kids)
	if last := kids - 1; last > 0 {
		forks = slices.Repeat([][]impl.Inst{short("mrd")}, kids)
		forks[0], forks[last] = short("mps"), short("mpp")
	}
	return forks
}

// slowPlain is WayPlain, told once more, of a ladder in normal form.
func slowPlain(norm []impl.Arm) []impl.Inst {
	var out []impl.Inst
	for _, rung := range norm {
		out = slices.Concat(out, slowBegin(rung.Net), slowTail(rung), short("end"))
	}
	return out
}

// chance says of each contact whether it lets current through, by a number from 0 to 63.
func chance(number int) func(e impl.Elem) bool {
	return func(e impl.Elem) bool {
		sum := fnv.New64a()
		fmt.Fprint(sum, e)
		return sum.Sum64()>>number&1 == 1
	}
}

// lets says whether a net lets current through.
func lets(n impl.Net, on func(e impl.Elem) bool) bool {
	through := func(kid impl.Net) bool { return lets(kid, on) }
	stopped := func(kid impl.Net) bool { return !lets(kid, on) }
	switch n.Kind {
	case impl.NetContact:
		return on(n.One)
	case impl.NetOr:
		return slices.ContainsFunc(n.Kids, through)
	case impl.NetNot:
		return stopped(n.Kids[0])
	}
	return !slices.ContainsFunc(n.Kids, stopped)
}

// gets has each coil of arms, and whether current comes to it, by what the document says of ladders.
func gets(arms []impl.Arm, current bool, on func(e impl.Elem) bool) []string {
	var out []string
	for _, arm := range arms {
		behind := current && lets(arm.Net, on)
		for _, coil := range arm.Coils {
			out = append(out, fmt.Sprint(coil, behind))
		}
		out = append(out, gets(arm.Kids, behind, on)...)
	}
	return out
}

// runs has each coil of a list, and whether it finds a bit that is on, by a machine with both stacks.
func runs(list []impl.Inst, on func(e impl.Elem) bool) []string {
	var out []string
	bits, forks := []bool{}, []bool{}
	for _, i := range list {
		top := len(bits) - 1
		switch codeRowOf(i.Code).word {
		case "ld":
			bits = append(bits, on(i.One))
		case "and":
			bits[top] = bits[top] && on(i.One)
		case "or":
			bits[top] = bits[top] || on(i.One)
		case "anb":
			bits = append(bits[:top-1], bits[top-1] && bits[top])
		case "orb":
			bits = append(bits[:top-1], bits[top-1] || bits[top])
		case "inv":
			bits[top] = !bits[top]
		case "mps":
			forks = append(forks, bits[top])
		case "mrd":
			bits[top] = forks[len(forks)-1]
		case "mpp":
			bits[top] = forks[len(forks)-1]
			forks = forks[:len(forks)-1]
		case "coil":
			out = append(out, fmt.Sprint(i.One, bits[top]))
		case "end":
			bits = bits[:top]
		}
	}
	return out
}

// wantCurrent runs the list of a ladder that is accepted: each coil gets what it gets in the ladder.
func wantCurrent(t *testing.T, rungs []impl.Arm, numbers int) {
	t.Helper()
	list := impl.WayPlain(rungs)
	for number := range numbers {
		on := chance(number)
		if got, want := runs(list, on), gets(rungs, true, on); !slices.Equal(got, want) {
			t.Errorf("the list of %.500s gives its coils %.500s, not %.500s", shown(rungs), fmt.Sprint(got), fmt.Sprint(want))
		}
	}
}

// deepNets are nets that need just so many bits, 2 at least, beginning.
var deepNets = map[string]func(bits int) impl.Net{
	"blocks": func(bits int) impl.Net {
		n := netOf("X0")
		for i := range bits {
			n = net(impl.NetAnd+i%2, netOf("X1"), n)
		}
		return n
	},
	"nots": func(bits int) impl.Net {
		n := netOf("X0")
		for range bits - 1 {
			n = net(impl.NetAnd, netOf("X1"), net(impl.NetNot, n))
		}
		return n
	},
	"turned blocks, with kids behind": func(bits int) impl.Net {
		n := netOf("not( or( X0 X2 ) )")
		for i := range bits - 1 {
			n = net(impl.NetNot, net(impl.NetAnd+i%2, netOf("X1"), n, netOf("X2")))
		}
		return n
	},
	"blocks as first kids of others": func(bits int) impl.Net {
		n := netOf("X0")
		for i := range bits {
			n = net(impl.NetOr-i%2, net(impl.NetAnd+i%2, netOf("X1"), n), netOf("X2"))
		}
		return n
	},
}

// deepArm needs just so many forks: each but the innermost arm has two kids, of which the first is deep.
func deepArm(forks int) impl.Arm {
	arm := ladder("X0 -> out:Y0")[0]
	for range forks {
		arm.Net = impl.Net{}
		arm = impl.Arm{Net: netOf("X0"), Kids: []impl.Arm{arm, {Coils: []impl.Elem{elem("out:Y1")}}}}
	}
	return arm
}

// sideArm has arms as deep within each other, but always in the last kid, and so needs 1 fork alone.
func sideArm(arms int) impl.Arm {
	arm := ladder("X0 -> out:Y0")[0]
	for range arms {
		arm.Net = impl.Net{}
		arm = impl.Arm{Net: netOf("X0"), Kids: []impl.Arm{{Coils: []impl.Elem{elem("out:Y1")}}, arm}}
	}
	return arm
}

// coiled is a rung of a net, with a coil.
func coiled(n impl.Net) impl.Arm { return impl.Arm{Net: n, Coils: []impl.Elem{elem("out:Y0")}} }

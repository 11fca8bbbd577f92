package tests

import (
	"fmt"
	"math"
	"reflect"
	"slices"
	"testing"

	"loop.example/stilway/impl"
)

func TestTreeConstants(t *testing.T) {
	for i, kind := range []int{impl.NetNone, impl.NetContact, impl.NetAnd, impl.NetOr, impl.NetNot} {
		if kind != i {
			t.Errorf("the kind %d is %d", i, kind)
		}
	}
	for i, code := range []int{impl.TreeMany, impl.TreeBadNet, impl.TreeBadElem, impl.TreeNoNet, impl.TreeNoCoil} {
		if code != i+1 {
			t.Errorf("the code %d is %d", i+1, code)
		}
	}
	if impl.TreeMaxRungs != 40 || impl.TreeMaxNodes != 400 {
		t.Errorf("the limits are %d and %d", impl.TreeMaxRungs, impl.TreeMaxNodes)
	}
}

// wantFault holds what is wrong with a ladder, if anything is, against the tests' own telling.
func wantFault(t *testing.T, rungs []impl.Arm, code, rung int) {
	t.Helper()
	want := impl.TreeFault{Code: code, Rung: rung}
	if got := impl.TreeCheck(rungs); got != want {
		t.Errorf("TreeCheck(%.500s) = %v, not %v", shown(rungs), got, want)
	}
}

// wantPromise5 holds a ladder, accepted or not, against promise 5, and against the slow size and check.
func wantPromise5(t *testing.T, rungs []impl.Arm) {
	t.Helper()
	slow := slowCheck(rungs)
	wantFault(t, rungs, slow.Code, slow.Rung)
	sum := 0
	for _, rung := range rungs {
		sum += impl.TreeSize([]impl.Arm{rung})
	}
	if size := impl.TreeSize(rungs); size != sum || size != slowSize(rungs) {
		t.Errorf("TreeSize(%.500s) = %d, that of its rungs %d, counted %d", shown(rungs), size, sum, slowSize(rungs))
	}
	right := len(rungs)
	switch slow.Code {
	case 0:
	case impl.TreeMany:
		return
	default:
		right = slow.Rung
		wantFault(t, rungs[slow.Rung:slow.Rung+1], slow.Code, 0)
		wantFault(t, rungs[:slow.Rung+1], slow.Code, slow.Rung)
	}
	for n := range right {
		wantFault(t, rungs[n:n+1], 0, 0)
		wantFault(t, rungs[:n], 0, 0)
	}
	wantFault(t, rungs[:right], 0, 0)
}

// Promise 5, of ladders that are accepted, with their sizes counted by hand.
func TestPromise5Accepted(t *testing.T) {
	for _, c := range []struct {
		size  int
		rungs []string
	}{
		{0, nil},
		{3, []string{"X0 -> out:Y0"}},
		{4, []string{"not( X0 ) -> out:Y0"}},
		{4, []string{"and( X0 ) -> out:Y0"}},
		{4, []string{"or( X0 ) -> out:Y0"}},
		{6, []string{"and( X0 /X1 +X2:E0 ) -> out:Y0"}},
		{6, []string{"or( D1<D2 R1=nan -5>=T3 ) -> out:Y0"}},
		{6, []string{"not( not( not( X0 ) ) ) -> out:Y0"}},
		{9, []string{"or( and( or( X0 ) X1 ) not( X2 ) ) -> out:Y0"}},
		{5, []string{"X0 -> out:Y0 set:M1 reset:T1"}},
		{4, []string{"X0 -> [ -> out:Y0 ]"}},
		{5, []string{"X0 -> [ X1 -> out:Y0 ]"}},
		{5, []string{"X0 -> set:M1 [ -> out:Y0 ]"}},
		{9, []string{"X0 -> [ -> [ X1 -> out:Y0 | -> [ -> out:Y1 ] ] ]"}},
		{14, []string{"X0 -> out:Y0 [ not( X1 ) -> out:Y1 | -> out:Y2 out:Y3 ]", "/X0 -> [ -> set:M0 ]"}},
		{25, []string{example}},
		{31, []string{example, "X0 -> out:Y0", "X0 -> out:Y0"}},
	} {
		rungs := ladder(c.rungs...)
		wantFault(t, rungs, 0, 0)
		if size := impl.TreeSize(rungs); size != c.size {
			t.Errorf("TreeSize(%v) = %d, not %d", c.rungs, size, c.size)
		}
		wantPromise5(t, rungs)
	}
}

// Promise 5, of ladders made by dice, all of them accepted, and of such that are wrong somewhere.
func TestPromise5Made(t *testing.T) {
	codes := map[int]int{}
	for _, bad := range []int{0, 3, 20, 100, 400} {
		m := newMaker(uint64(bad)+1, bad)
		for range 400 {
			rungs := m.ladder(pick(&m.dice, []int{0, 1, 2, 3, 4, 5, 6, 12, 40, 41}))
			codes[impl.TreeCheck(rungs).Code]++
			wantPromise5(t, rungs)
		}
	}
	for code := 0; code <= 5; code++ {
		if codes[code] < 20 {
			t.Errorf("only %d ladders have the code %d", codes[code], code)
		}
	}
}

// smallNets are all nets of any Kind, with anything in One, and at most two kids, which have none.
func smallNets() []impl.Net {
	var leaves, out []impl.Net
	for kind := -1; kind <= 5; kind++ {
		for _, one := range []impl.Elem{{}, elem("X0"), elem("out:Y0"), {Op: 1}, {Args: []impl.DevArg{{Kind: 1}}}} {
			leaves = append(leaves, impl.Net{Kind: kind, One: one})
		}
	}
	for _, n := range leaves {
		for kids := range 3 {
			tuples(leaves, kids, func(kids []impl.Net) {
				out = append(out, impl.Net{Kind: n.Kind, One: n.One, Kids: kids})
			})
		}
	}
	return out
}

// Promise 5, of all small nets, in a rung, in a kid, and deep within another net.
func TestPromise5SmallNets(t *testing.T) {
	coils := []impl.Elem{elem("out:Y0")}
	right := netOf("X1")
	for i, n := range smallNets() {
		wantPromise5(t, []impl.Arm{{Net: n, Coils: coils}})
		if i%3 == 0 {
			wantPromise5(t, []impl.Arm{{Net: right, Coils: coils}, {Net: right, Kids: []impl.Arm{{Net: n, Coils: coils}}}})
			wantPromise5(t, []impl.Arm{{Net: net(impl.NetOr, right, net(impl.NetNot, n), contact(coils[0])), Coils: coils}})
		}
	}
}

// smallArms are arms with nets, coils and kids, right or wrong or not there.
func smallArms() (leaves, all []impl.Arm) {
	out, x := elem("out:Y0"), elem("X0")
	for _, n := range []impl.Net{{}, contact(x), contact(out), {Kind: impl.NetAnd}, {One: x}} {
		for _, coils := range [][]impl.Elem{nil, {out}, {x}, {out, x}} {
			leaves = append(leaves, impl.Arm{Net: n, Coils: coils})
		}
	}
	for _, arm := range leaves {
		for kids := range 3 {
			tuples(leaves, kids, func(kids []impl.Arm) {
				all = append(all, impl.Arm{Net: arm.Net, Coils: arm.Coils, Kids: kids})
			})
		}
	}
	return leaves, all
}

// Promise 5, of all small arms, as rungs and as kids, and of two rungs.
func TestPromise5SmallArms(t *testing.T) {
	leaves, all := smallArms()
	right := ladder("X0 -> out:Y0")[0]
	for i, arm := range all {
		wantPromise5(t, []impl.Arm{arm})
		wantPromise5(t, []impl.Arm{right, {Net: right.Net, Kids: []impl.Arm{arm, right}}})
		wantPromise5(t, []impl.Arm{arm, leaves[i%len(leaves)]})
		wantPromise5(t, []impl.Arm{leaves[i%len(leaves)], arm})
	}
	tuples(leaves, 3, func(rungs []impl.Arm) { wantPromise5(t, rungs) })
}

// Promise 5, of what is wrong with one arm, as a rung, and as a kid; 0 is a kid that is right.
func TestPromise5Wrong(t *testing.T) {
	out, x := elem("out:Y0"), elem("X0")
	right := contact(x)
	coils := []impl.Elem{out}
	const badNet, badElem, noNet, noCoil = impl.TreeBadNet, impl.TreeBadElem, impl.TreeNoNet, impl.TreeNoCoil
	for i, c := range []struct {
		arm       impl.Arm
		rung, kid int
	}{
		{impl.Arm{}, noNet, noCoil},
		{impl.Arm{Coils: coils}, noNet, 0},
		{impl.Arm{Kids: []impl.Arm{{Coils: coils}}}, noNet, 0},
		{impl.Arm{Coils: []impl.Elem{x}}, noNet, badElem},
		{impl.Arm{Net: right}, noCoil, noCoil},
		{impl.Arm{Net: right, Coils: []impl.Elem{}, Kids: []impl.Arm{}}, noCoil, noCoil},
		{impl.Arm{Net: right, Kids: []impl.Arm{{}}}, noCoil, noCoil},
		{impl.Arm{Net: impl.Net{Kind: 1, One: x, Kids: []impl.Net{right}}, Coils: coils}, badNet, badNet},
		{impl.Arm{Net: impl.Net{Kind: 1, One: out, Kids: []impl.Net{right}}, Coils: coils}, badNet, badNet},
		{impl.Arm{Net: impl.Net{Kind: 1, Kids: []impl.Net{{}}}, Coils: coils}, badNet, badNet},
		{impl.Arm{Net: impl.Net{One: x}, Coils: coils}, badNet, badNet},
		{impl.Arm{Net: impl.Net{One: impl.Elem{Op: 1}}, Coils: coils}, badNet, badNet},
		{impl.Arm{Net: impl.Net{One: impl.Elem{Args: []impl.DevArg{{}}}}, Coils: coils}, badNet, badNet},
		{impl.Arm{Net: net(0, right), Coils: coils}, badNet, badNet},
		{impl.Arm{Net: net(0, impl.Net{}), Coils: coils}, badNet, badNet},
		{impl.Arm{Net: net(2), Coils: coils}, badNet, badNet},
		{impl.Arm{Net: net(3), Coils: coils}, badNet, badNet},
		{impl.Arm{Net: net(4), Coils: coils}, badNet, badNet},
		{impl.Arm{Net: net(2, []impl.Net{}...), Coils: coils}, badNet, badNet},
		{impl.Arm{Net: net(4, right), Coils: coils}, 0, 0},
		{impl.Arm{Net: net(4, right, right), Coils: coils}, badNet, badNet},
		{impl.Arm{Net: net(4, right, right, right), Coils: coils}, badNet, badNet},
		{impl.Arm{Net: impl.Net{Kind: 2, One: x, Kids: []impl.Net{right}}, Coils: coils}, badNet, badNet},
		{impl.Arm{Net: impl.Net{Kind: 3, One: impl.Elem{Op: 1}, Kids: []impl.Net{right}}, Coils: coils}, badNet, badNet},
		{impl.Arm{Net: impl.Net{Kind: 4, One: impl.Elem{Args: []impl.DevArg{{}}}, Kids: []impl.Net{right}}, Coils: coils}, badNet, badNet},
		{impl.Arm{Net: impl.Net{Kind: 2, One: x}, Coils: coils}, badNet, badNet},
		{impl.Arm{Net: impl.Net{Kind: 3, One: impl.Elem{Args: []impl.DevArg{}}, Kids: []impl.Net{right}}, Coils: coils}, 0, 0},
		{impl.Arm{Net: net(-1, right), Coils: coils}, badNet, badNet},
		{impl.Arm{Net: net(5, right), Coils: coils}, badNet, badNet},
		{impl.Arm{Net: impl.Net{Kind: -1, One: x}, Coils: coils}, badNet, badNet},
		{impl.Arm{Net: impl.Net{Kind: 5, One: x}, Coils: coils}, badNet, badNet},
		{impl.Arm{Net: net(math.MinInt, right), Coils: coils}, badNet, badNet},
		{impl.Arm{Net: net(math.MaxInt), Coils: coils}, badNet, badNet},
		{impl.Arm{Net: net(2, impl.Net{}), Coils: coils}, badNet, badNet},
		{impl.Arm{Net: net(3, right, impl.Net{}), Coils: coils}, badNet, badNet},
		{impl.Arm{Net: net(4, impl.Net{}), Coils: coils}, badNet, badNet},
		{impl.Arm{Net: net(2, right, net(3, right, net(4, impl.Net{}))), Coils: coils}, badNet, badNet},
		{impl.Arm{Net: contact(impl.Elem{}), Coils: coils}, badElem, badElem},
		{impl.Arm{Net: contact(out), Coils: coils}, badElem, badElem},
		{impl.Arm{Net: contact(impl.Elem{Op: 1, Args: []impl.DevArg{{Kind: 1, N: 32}}}), Coils: coils}, badElem, badElem},
		{impl.Arm{Net: net(2, right, net(3, right, net(4, contact(out)))), Coils: coils}, badElem, badElem},
		{impl.Arm{Net: right, Coils: []impl.Elem{x}}, badElem, badElem},
		{impl.Arm{Net: right, Coils: []impl.Elem{{}}}, badElem, badElem},
		{impl.Arm{Net: right, Coils: []impl.Elem{out, out, x}}, badElem, badElem},
		{impl.Arm{Net: right, Coils: []impl.Elem{{Op: 21, Args: []impl.DevArg{{Kind: 2, N: 32}}}}}, badElem, badElem},
	} {
		t.Run(fmt.Sprint(i), func(t *testing.T) {
			first, last := ladder("X0 -> out:Y0")[0], impl.Arm{}
			wantFault(t, []impl.Arm{c.arm}, c.rung, 0)
			if c.rung != 0 {
				wantFault(t, []impl.Arm{first, first, c.arm, last}, c.rung, 2)
				wantFault(t, []impl.Arm{c.arm, last}, c.rung, 0)
			}
			rung := 1
			if c.kid == 0 {
				rung = 0
			}
			wantFault(t, []impl.Arm{first, {Net: right, Kids: []impl.Arm{c.arm}}}, c.kid, rung)
			wantFault(t, []impl.Arm{first, {Net: right, Kids: []impl.Arm{first, {Kids: []impl.Arm{first, c.arm}}, first}}}, c.kid, rung)
		})
	}
}

// Promise 5, of two things that are wrong: the first one is told, in the order of the chapter.
func TestPromise5Order(t *testing.T) {
	out, x := elem("out:Y0"), elem("X0")
	right, none, badElem, badNet := contact(x), impl.Net{}, contact(out), net(2)
	coils, wrong := []impl.Elem{out}, []impl.Elem{x}
	good := impl.Arm{Net: right, Coils: coils}
	for i, c := range []struct {
		code, rung int
		rungs      []impl.Arm
	}{
		{3, 0, []impl.Arm{{Net: net(3, badElem, none), Coils: coils}}},
		{2, 0, []impl.Arm{{Net: net(3, none, badElem), Coils: coils}}},
		{3, 0, []impl.Arm{{Net: net(3, net(4, badElem), badNet), Coils: coils}}},
		{2, 0, []impl.Arm{{Net: net(3, net(4, badNet), badElem), Coils: coils}}},
		{2, 0, []impl.Arm{{Net: net(4, badElem, right), Coils: coils}}},
		{2, 0, []impl.Arm{{Net: net(5, badElem), Coils: coils}}},
		{2, 0, []impl.Arm{{Net: impl.Net{Kind: 2, One: out, Kids: []impl.Net{badElem}}, Coils: coils}}},
		{2, 0, []impl.Arm{{Net: impl.Net{Kind: 1, One: out, Kids: []impl.Net{badElem}}, Coils: coils}}},
		{2, 0, []impl.Arm{{Net: badNet, Coils: wrong}}},
		{3, 0, []impl.Arm{{Net: badElem, Coils: wrong}}},
		{2, 0, []impl.Arm{{Net: net(2, right, none), Coils: wrong}}},
		{2, 0, []impl.Arm{{Net: badNet}}},
		{3, 0, []impl.Arm{{Net: badElem}}},
		{4, 0, []impl.Arm{{}}},
		{4, 0, []impl.Arm{{Coils: wrong}}},
		{4, 0, []impl.Arm{{Kids: []impl.Arm{{Net: badNet}}}}},
		{2, 0, []impl.Arm{{Net: badNet, Kids: []impl.Arm{{Net: badElem, Coils: coils}}}}},
		{3, 0, []impl.Arm{{Net: badElem, Kids: []impl.Arm{{Net: badNet, Coils: coils}}}}},
		{3, 0, []impl.Arm{{Net: right, Coils: wrong, Kids: []impl.Arm{{Net: badNet, Coils: coils}}}}},
		{5, 0, []impl.Arm{{Net: right, Kids: []impl.Arm{{Net: right}, {Net: badNet, Coils: coils}}}}},
		{2, 0, []impl.Arm{{Net: right, Kids: []impl.Arm{{Net: badNet, Coils: coils}, {Net: right}}}}},
		{3, 0, []impl.Arm{{Net: right, Kids: []impl.Arm{{Kids: []impl.Arm{{Coils: wrong}}}, {Net: badNet}}}}},
		{5, 0, []impl.Arm{{Net: right, Kids: []impl.Arm{{Kids: []impl.Arm{{}}}, {Net: badNet}}}}},
		{5, 1, []impl.Arm{good, {Net: right}, {Net: badNet, Coils: coils}}},
		{2, 1, []impl.Arm{good, {Net: badNet, Coils: coils}, {Net: right}}},
		{5, 1, []impl.Arm{good, {Net: right, Kids: []impl.Arm{{Kids: []impl.Arm{{}}}}}, {}}},
		{3, 2, []impl.Arm{good, good, {Net: right, Coils: wrong}, {}, {Net: badNet}}},
	} {
		t.Run(fmt.Sprint(i), func(t *testing.T) {
			wantFault(t, c.rungs, c.code, c.rung)
			wantPromise5(t, c.rungs)
		})
	}
}

// ladderOf has that many rungs, three parts each, and its first rung is filled up to that size in one of several ways.
func ladderOf(rungs, size int, fill func(rung *impl.Arm, parts int)) []impl.Arm {
	var out []impl.Arm
	for range rungs {
		out = append(out, ladder("X0 -> out:Y0")...)
	}
	if more := size - 3*rungs; more > 0 {
		fill(&out[0], more)
	}
	return out
}

// fills are ways to make an arm that many parts larger.
var fills = map[string]func(arm *impl.Arm, parts int){
	"coils": func(arm *impl.Arm, parts int) {
		for range parts {
			arm.Coils = append(arm.Coils, elem("set:M1"))
		}
	},
	"kids of a net": func(arm *impl.Arm, parts int) {
		arm.Net = net(impl.NetAnd, arm.Net)
		for range parts - 1 {
			arm.Net.Kids = append(arm.Net.Kids, netOf("/X1"))
		}
	},
	"nets within nets": func(arm *impl.Arm, parts int) {
		for i := range parts {
			arm.Net = net(2+i%3, arm.Net)
		}
	},
	"arms within arms": func(arm *impl.Arm, parts int) {
		for range parts {
			arm.Kids = []impl.Arm{{Coils: arm.Coils, Kids: arm.Kids}}
			arm.Coils = nil
		}
	},
	"kids with nets": func(arm *impl.Arm, parts int) {
		for ; parts >= 3; parts -= 3 {
			arm.Kids = append(arm.Kids, ladder("X1 -> out:Y1")...)
		}
		for range parts {
			arm.Kids[0].Coils = append(arm.Kids[0].Coils, elem("out:Y1"))
		}
	},
	"kids without nets": func(arm *impl.Arm, parts int) {
		for ; parts >= 2; parts -= 2 {
			arm.Kids = append(arm.Kids, ladder("-> out:Y1")...)
		}
		for range parts {
			arm.Kids[0].Coils = append(arm.Kids[0].Coils, elem("out:Y1"))
		}
	},
}

// Promise 5, at the two limits.
func TestPromise5Limits(t *testing.T) {
	for name, fill := range fills {
		t.Run(name, func(t *testing.T) {
			for _, c := range []struct{ rungs, size, code int }{
				{0, 0, 0}, {1, 3, 0}, {39, 117, 0}, {40, 120, 0}, {41, 123, 1}, {42, 126, 1}, {200, 600, 1},
				{1, 399, 0}, {1, 400, 0}, {1, 401, 1}, {1, 402, 1}, {2, 400, 0}, {2, 401, 1}, {40, 399, 0}, {40, 400, 0}, {40, 401, 1}, {41, 400, 1}, {41, 401, 1}, {1, 3000, 1},
			} {
				rungs := ladderOf(c.rungs, c.size, fill)
				if size := impl.TreeSize(rungs); size != c.size {
					t.Errorf("%d rungs of %d parts have the size %d", c.rungs, c.size, size)
				}
				wantFault(t, rungs, c.code, 0)
				slices.Reverse(rungs)
				wantPromise5(t, rungs)
			}
		})
	}
}

// Promise 5: of a ladder that is too large nothing else is told.
func TestPromise5ManyFirst(t *testing.T) {
	wantFault(t, make([]impl.Arm, 40), impl.TreeNoNet, 0)
	wantFault(t, make([]impl.Arm, 41), impl.TreeMany, 0)
	none := func(n int) []impl.Arm {
		return []impl.Arm{{Net: net(impl.NetOr, make([]impl.Net, n)...), Coils: []impl.Elem{elem("out:Y0")}}}
	}
	wantFault(t, none(397), impl.TreeBadNet, 0)
	wantFault(t, none(398), impl.TreeMany, 0)
	wantFault(t, none(100000), impl.TreeMany, 0)
	wantFault(t, []impl.Arm{{Kids: make([]impl.Arm, 399)}}, impl.TreeNoNet, 0)
	wantFault(t, []impl.Arm{{Kids: make([]impl.Arm, 400)}}, impl.TreeMany, 0)
	wantFault(t, []impl.Arm{{Coils: make([]impl.Elem, 399)}}, impl.TreeNoNet, 0)
	wantFault(t, []impl.Arm{{Coils: make([]impl.Elem, 400)}}, impl.TreeMany, 0)
	wrong := ladderOf(40, 400, fills["coils"])
	wrong[39].Coils = nil
	wrong[39].Net = net(impl.NetNot, netOf("X0"))
	wantFault(t, wrong, impl.TreeNoCoil, 39)
	wrong[38].Coils = append(wrong[38].Coils, impl.Elem{})
	wantFault(t, wrong, impl.TreeMany, 0)
}

// Sizes where nets are none, or have what they should not have.
func TestTreeSizeOfNets(t *testing.T) {
	x := netOf("X0")
	for i, c := range []struct {
		size int
		net  impl.Net
	}{
		{0, impl.Net{}},
		{0, impl.Net{One: impl.Elem{Args: []impl.DevArg{}}, Kids: []impl.Net{}}},
		{1, impl.Net{Kind: -1}}, {1, impl.Net{Kind: 1}}, {1, impl.Net{Kind: 2}}, {1, impl.Net{Kind: 5}},
		{1, impl.Net{One: impl.Elem{Op: 1}}},
		{1, impl.Net{One: impl.Elem{Args: []impl.DevArg{{}}}}},
		{2, net(0, impl.Net{})}, {2, net(0, x)}, {2, net(4, impl.Net{})},
		{3, net(2, x, impl.Net{})}, {3, net(2, impl.Net{}, impl.Net{})}, {4, net(4, net(9, impl.Net{}), x)},
		{5, net(3, impl.Net{}, net(0, impl.Net{}, impl.Net{}))},
		{3, impl.Net{Kind: 1, One: x.One, Kids: []impl.Net{x, {}}}},
	} {
		for _, arm := range []impl.Arm{{Net: c.net}, {Kids: []impl.Arm{{Net: c.net}}}, {Coils: make([]impl.Elem, 3), Net: c.net, Kids: make([]impl.Arm, 2)}} {
			want := c.size + 1 + len(arm.Coils) + len(arm.Kids)
			if size := impl.TreeSize([]impl.Arm{arm}); size != want {
				t.Errorf("case %d: %d, not %d", i, size, want)
			}
		}
	}
}

// deepLadders are far too large: nets within nets, arms within arms, and nets and arms that hold themselves twice over, again and again.
func deepLadders(deep int) [][]impl.Arm {
	n, arm := netOf("X0"), ladder("X0 -> out:Y0")[0]
	for range deep {
		n = net(impl.NetNot, n)
		arm = impl.Arm{Net: netOf("X0"), Kids: []impl.Arm{arm}}
	}
	wideNet, wideArm := netOf("X0"), ladder("X0 -> out:Y0")[0]
	for range 14 {
		wideNet = net(impl.NetOr, wideNet, wideNet)
		wideArm.Kids = []impl.Arm{wideArm, wideArm}
	}
	return [][]impl.Arm{{{Net: n, Coils: arm.Coils}}, {arm}, {{Net: wideNet, Coils: arm.Coils}}, {wideArm}}
}

// Promises 5 and 6, of ladders that are far too large.
func TestPromise5And6Deep(t *testing.T) {
	const deep = 200000
	sizes := []int{deep + 2, 2*deep + 3, 1 << 15, 3 * (1<<15 - 1)}
	again := deepLadders(deep)
	for i, rungs := range deepLadders(deep) {
		if size := impl.TreeSize(rungs); size != sizes[i] {
			t.Errorf("ladder %d has the size %d, not %d", i, size, sizes[i])
		}
		if fault := impl.TreeCheck(rungs); fault != (impl.TreeFault{Code: impl.TreeMany}) {
			t.Errorf("ladder %d: %v", i, fault)
		}
		for j := range again {
			if same := impl.TreeSame(rungs, again[j]); same != (i == j) {
				t.Errorf("ladders %d and %d: %v", i, j, same)
			}
		}
		if uses := impl.TreeUses(rungs, impl.DevArg{Kind: impl.DevX}); uses < 1 {
			t.Errorf("ladder %d has X0 %d times", i, uses)
		}
	}
}

// What holds itself has no end, and yet it is told that it is too large.
func TestTreeCheckOfWhatHoldsItself(t *testing.T) {
	nets := []impl.Net{netOf("not( X0 )")}
	nets[0].Kids = nets
	arms := ladder("X0 -> out:Y0")
	arms[0].Kids = arms
	for _, rungs := range [][]impl.Arm{{{Net: nets[0], Coils: []impl.Elem{elem("out:Y0")}}}, arms, {{Kids: []impl.Arm{{Net: nets[0]}}}}} {
		if fault := impl.TreeCheck(rungs); fault != (impl.TreeFault{Code: impl.TreeMany}) {
			t.Error(fault)
		}
	}
}

// operandsOf has operands that may stand in a ladder of these tests, and some that do not, ok or not.
func operandsOf() []impl.DevArg {
	out := append(wholePool(), impl.DevArg{Kind: math.MaxInt}, impl.DevArg{Kind: 1, P: 1})
	for kind := 0; kind <= 13; kind++ {
		for n := -1; n < 9; n++ {
			for p := range 2 {
				if a := (impl.DevArg{Kind: kind, N: n, P: p}); !slices.Contains(out, a) {
					out = append(out, a)
				}
			}
		}
	}
	return out
}

// wantPromise6 holds two ladders, the same or not, against promise 6.
func wantPromise6(t *testing.T, a, b []impl.Arm, operands []impl.DevArg) {
	t.Helper()
	same, back := impl.TreeSame(a, b), impl.TreeSame(b, a)
	if same != back || same != (shown(a) == shown(b)) {
		t.Errorf("TreeSame is %v, and %v the other way, of %.500s and %.500s", same, back, shown(a), shown(b))
	}
	if !same {
		return
	}
	if impl.TreeSize(a) != impl.TreeSize(b) || impl.TreeCheck(a) != impl.TreeCheck(b) {
		t.Errorf("%.500s: the sizes are %d and %d, the faults %v and %v", shown(a), impl.TreeSize(a), impl.TreeSize(b), impl.TreeCheck(a), impl.TreeCheck(b))
	}
	text := shown(a)
	for _, o := range operands {
		if uses := impl.TreeUses(a, o); uses != impl.TreeUses(b, o) || uses != slowUses(text, o) {
			t.Errorf("%.500s names %v %d and %d times, counted %d", text, o, uses, impl.TreeUses(b, o), slowUses(text, o))
		}
	}
}

// change makes, in the order of the parts, one change in what is there, the first if left is 0, and says whether there are so many.
func change(v reflect.Value, left *int) bool {
	now := func() bool {
		*left--
		return *left == -1
	}
	switch v.Kind() {
	case reflect.Int:
		for _, by := range []int64{1, -1} {
			if now() {
				v.SetInt(v.Int() + by)
				return true
			}
		}
	case reflect.Struct:
		for i := range v.NumField() {
			if change(v.Field(i), left) {
				return true
			}
		}
	case reflect.Slice:
		if now() {
			v.Set(reflect.Append(v, reflect.Zero(v.Type().Elem())))
			return true
		}
		if v.Len() > 0 && now() {
			v.Set(reflect.Append(v, v.Index(v.Len()-1)))
			return true
		}
		if v.Len() > 0 && now() {
			v.Set(v.Slice(0, v.Len()-1))
			return true
		}
		if v.Len() > 1 && now() {
			v.Set(v.Slice(1, v.Len()))
			return true
		}
		for i := range v.Len() {
			if change(v.Index(i), left) {
				return true
			}
		}
	}
	return false
}

// changes are all values that are one change away.
func changes[T any](from T, copied func(from T) T) []T {
	var out []T
	for n := 0; ; n++ {
		other, left := copied(from), n
		if !change(reflect.ValueOf(&other).Elem(), &left) {
			return out
		}
		out = append(out, other)
	}
}

// oneOff are all ladders that are one change away.
func oneOff(rungs []impl.Arm) [][]impl.Arm { return changes(rungs, copied) }

// Promise 6, of a ladder and all that differ from it in one part alone.
func TestPromise6OneOff(t *testing.T) {
	some := []impl.DevArg{{Kind: 1}, {Kind: 1, N: 1}, {Kind: 2}, {}}
	for _, rungs := range [][]impl.Arm{
		nil,
		make([]impl.Arm, 2),
		ladder("X0 -> out:Y0"),
		ladder(example),
		ladder("or( X0 not( +X1:E2 ) ) -> out:Y0 timer:T1,5 [ D1<D2 -> set:M1 | -> [ X0 -> add:D1,D2,3 ] ]", "X0 -> out:Y0", "X0 -> out:Y0"),
	} {
		others := oneOff(rungs)
		for _, other := range others {
			wantPromise6(t, rungs, other, some)
			if impl.TreeSame(rungs, other) {
				t.Errorf("%v is the same as %v", rungs, other)
			}
			wantPromise6(t, other, copied(other), some)
		}
		for i, a := range others[:min(len(others), 150)] {
			for _, b := range others[:i] {
				wantPromise6(t, a, b, some)
			}
		}
	}
}

// Promise 6, of ladders made by dice, against copies with empty lists in the place of nil ones, and against each other.
func TestPromise6Made(t *testing.T) {
	operands := operandsOf()
	for _, bad := range []int{0, 50, 300} {
		m := newMaker(uint64(bad)+11, bad)
		var all [][]impl.Arm
		for range 60 {
			all = append(all, m.ladder(m.below(4)))
		}
		for i, a := range all {
			wantPromise6(t, a, a, operands)
			wantPromise6(t, a, copied(a), operands)
			for _, b := range all[:i] {
				wantPromise6(t, a, b, operands[:3])
			}
		}
	}
}

// Promise 6, of the empty ladder, and of parts that are there or not, told one by one.
func TestPromise6Parts(t *testing.T) {
	base := func() []impl.Arm {
		return ladder("and( +X0:E0 X1 ) -> out:Y0 set:M1 [ X2 -> out:Y1 | -> out:Y2 ]", "X3 -> out:Y3")
	}
	x := netOf("X0")
	if !impl.TreeSame(nil, []impl.Arm{}) || !impl.TreeSame(nil, nil) || !impl.TreeSame(base(), base()) {
		t.Error("the same is not the same")
	}
	for i, change := range []func(r []impl.Arm) []impl.Arm{
		func(r []impl.Arm) []impl.Arm { return nil },
		func(r []impl.Arm) []impl.Arm { return append(r, impl.Arm{}) },
		func(r []impl.Arm) []impl.Arm { return append(r, r[1]) },
		func(r []impl.Arm) []impl.Arm { return r[:1] },
		func(r []impl.Arm) []impl.Arm { return []impl.Arm{r[1], r[0]} },
		func(r []impl.Arm) []impl.Arm { r[0].Net.Kind = impl.NetOr; return r },
		func(r []impl.Arm) []impl.Arm { r[0].Net.One.Op = 1; return r },
		func(r []impl.Arm) []impl.Arm { r[0].Net.One.Args = []impl.DevArg{{}}; return r },
		func(r []impl.Arm) []impl.Arm { r[0].Net.Kids = append(r[0].Net.Kids, impl.Net{}); return r },
		func(r []impl.Arm) []impl.Arm { r[0].Net.Kids = append(r[0].Net.Kids, x); return r },
		func(r []impl.Arm) []impl.Arm { r[0].Net.Kids = r[0].Net.Kids[:1]; return r },
		func(r []impl.Arm) []impl.Arm { slices.Reverse(r[0].Net.Kids); return r },
		func(r []impl.Arm) []impl.Arm { r[0].Net.Kids[0].One.Op = impl.ElemDown; return r },
		func(r []impl.Arm) []impl.Arm { r[0].Net.Kids[0].One.Args[0].Kind = impl.DevM; return r },
		func(r []impl.Arm) []impl.Arm { r[0].Net.Kids[0].One.Args[1].N = 1; return r },
		func(r []impl.Arm) []impl.Arm { r[0].Net.Kids[0].One.Args[1].P = 1; return r },
		func(r []impl.Arm) []impl.Arm { r[0].Net.Kids[0].One.Args = r[0].Net.Kids[0].One.Args[:1]; return r },
		func(r []impl.Arm) []impl.Arm { r[0].Net.Kids[1].Kids = []impl.Net{{}}; return r },
		func(r []impl.Arm) []impl.Arm { r[0].Coils = append(r[0].Coils, impl.Elem{}); return r },
		func(r []impl.Arm) []impl.Arm { r[0].Coils = r[0].Coils[:1]; return r },
		func(r []impl.Arm) []impl.Arm { slices.Reverse(r[0].Coils); return r },
		func(r []impl.Arm) []impl.Arm { r[0].Coils[1].Op = impl.ElemReset; return r },
		func(r []impl.Arm) []impl.Arm {
			r[0].Coils[1].Args = append(r[0].Coils[1].Args, impl.DevArg{})
			return r
		},
		func(r []impl.Arm) []impl.Arm { r[0].Kids = append(r[0].Kids, impl.Arm{}); return r },
		func(r []impl.Arm) []impl.Arm { r[0].Kids = r[0].Kids[1:]; return r },
		func(r []impl.Arm) []impl.Arm { slices.Reverse(r[0].Kids); return r },
		func(r []impl.Arm) []impl.Arm { r[0].Kids[0].Net = impl.Net{}; return r },
		func(r []impl.Arm) []impl.Arm { r[0].Kids[1].Net = x; return r },
		func(r []impl.Arm) []impl.Arm { r[0].Kids[1].Coils[0].Args[0].N = 3; return r },
		func(r []impl.Arm) []impl.Arm { r[0].Kids[1].Kids = []impl.Arm{{}}; return r },
	} {
		other := change(base())
		if impl.TreeSame(base(), other) || impl.TreeSame(other, base()) || !impl.TreeSame(other, copied(other)) {
			t.Errorf("change %d: %v", i, other)
		}
	}
}

// Promise 6, of how often an operand stands in a ladder, counted by hand.
func TestPromise6Uses(t *testing.T) {
	x0 := impl.DevArg{Kind: impl.DevX}
	right := ladder(
		"or( X0 and( /X0 not( +X0:E0 ) ) T1 ) -> out:Y0 timer:T1,5 [ X0 -> set:M1 | -> reset:T1 [ -X1:E0 -> add:D1,D1,D1 [ D1<5 -> move:D1,5 ] ] ]",
		"-5<=5 -> move:R1,0.5 sub:R1,R1,0.5", "X0 -> pulse:M1,E0")
	wrong := []impl.Arm{
		{Net: impl.Net{One: impl.Elem{Op: 99, Args: []impl.DevArg{x0, {Kind: 77}, x0}}, Kids: []impl.Net{{Kind: 2, One: elem("X0")}, {Kind: 1, One: elem("X0"), Kids: []impl.Net{{Kind: -3, One: elem("/X0")}}}}}},
		{Coils: []impl.Elem{elem("X0"), {Args: []impl.DevArg{{}, {Kind: 77}, {Kind: 1, N: 32}}}}, Kids: []impl.Arm{{Coils: []impl.Elem{{Op: 21, Args: []impl.DevArg{x0, x0}}}}}},
	}
	for _, c := range []struct {
		rungs []impl.Arm
		a     impl.DevArg
		uses  int
	}{
		{nil, x0, 0}, {nil, impl.DevArg{}, 0}, {make([]impl.Arm, 9), impl.DevArg{}, 0},
		{right, x0, 5}, {right, impl.DevArg{Kind: impl.DevX, N: 1}, 1}, {right, impl.DevArg{Kind: impl.DevX, N: 2}, 0},
		{right, impl.DevArg{Kind: impl.DevE}, 3}, {right, impl.DevArg{Kind: impl.DevT, N: 1}, 3}, {right, impl.DevArg{Kind: impl.DevM, N: 1}, 2},
		{right, impl.DevArg{Kind: impl.DevD, N: 1}, 5}, {right, impl.DevArg{Kind: impl.DevInt, N: 5}, 4}, {right, impl.DevArg{Kind: impl.DevInt, N: -5}, 1},
		{right, impl.DevArg{Kind: impl.DevR, N: 1}, 3}, {right, impl.DevArg{Kind: impl.DevDec, N: 5, P: 1}, 2}, {right, impl.DevArg{Kind: impl.DevDec, N: 5, P: 2}, 0},
		{right, impl.DevArg{}, 0}, {right, impl.DevArg{Kind: 1, P: 1}, 0}, {right, impl.DevArg{Kind: 1, N: -1}, 0}, {right, impl.DevArg{Kind: 14}, 0},
		{wrong, x0, 8}, {wrong, impl.DevArg{Kind: 77}, 2}, {wrong, impl.DevArg{}, 1}, {wrong, impl.DevArg{Kind: 1, N: 32}, 1}, {wrong, impl.DevArg{Kind: 78}, 0},
	} {
		if uses := impl.TreeUses(c.rungs, c.a); uses != c.uses || uses != slowUses(shown(c.rungs), c.a) {
			t.Errorf("%v stands %d times, not %d, in %v", c.a, uses, c.uses, c.rungs)
		}
	}
}

// Nothing is written into a ladder, or behind the ends of its lists.
func TestTreeMemory(t *testing.T) {
	for _, bad := range []int{0, 100} {
		m := newMaker(uint64(bad)+21, bad)
		for range 50 {
			a, b := copied(m.ladder(3)), copied(m.ladder(3))
			before := whole(a) + whole(b)
			impl.TreeSize(a)
			impl.TreeCheck(a)
			impl.TreeSame(a, b)
			impl.TreeSame(a, copied(a))
			impl.TreeUses(a, impl.DevArg{Kind: impl.DevX})
			if whole(a)+whole(b) != before {
				t.Errorf("a ladder was written into: %v", a)
			}
		}
	}
}

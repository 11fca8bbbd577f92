package tests

import (
	"fmt"
	"math"
	"slices"
	"strings"
	"testing"

	"loop.example/stilway/impl"
)

// shownNet is a net in full.
func shownNet(n impl.Net) string { return fmt.Sprint(n) }

// wantNormNet holds the normal form of a net, right or wrong, against the tests' own telling.
func wantNormNet(t *testing.T, n impl.Net, d *dice) {
	t.Helper()
	if got, want := impl.NormNet(n), slowNormNet(n, d); shownNet(got) != shownNet(want) {
		t.Errorf("NormNet(%.500s) = %.500s, not %.500s", shownNet(n), shownNet(got), shownNet(want))
	}
}

// wantNorm holds the normal form of a ladder, accepted or not, against the tests' own telling.
func wantNorm(t *testing.T, rungs []impl.Arm, d *dice) {
	t.Helper()
	got, is := impl.NormMake(rungs), impl.NormIs(rungs)
	if slowCheck(rungs).Code != 0 {
		if len(got) != 0 || is {
			t.Errorf("%.500s is not accepted, but has the normal form %.500s, and NormIs is %v", shown(rungs), shown(got), is)
		}
		return
	}
	want, steps := slowNorm(rungs, d)
	if shown(got) != shown(want) {
		t.Errorf("NormMake(%.500s) = %.500s, not %.500s", shown(rungs), shown(got), shown(want))
	}
	if is != (steps == 0) {
		t.Errorf("NormIs(%.500s) is %v, but there are %d steps to the normal form", shown(rungs), is, steps)
	}
}

// wantPromise7 holds a ladder that is accepted against promise 7.
func wantPromise7(t *testing.T, rungs []impl.Arm) {
	t.Helper()
	norm := impl.NormMake(rungs)
	if fault := impl.TreeCheck(norm); fault.Code != 0 {
		t.Errorf("the normal form of %.500s is not accepted: %v", shown(rungs), fault)
	}
	if again := impl.NormMake(norm); shown(again) != shown(norm) || !impl.NormIs(norm) {
		t.Errorf("the normal form %.500s has the normal form %.500s, and NormIs is %v", shown(norm), shown(again), impl.NormIs(norm))
	}
	if size, most := slowSize(norm), slowSize(rungs); size > most {
		t.Errorf("the normal form of %.500s has %d parts, of %d", shown(rungs), size, most)
	}
	if len(norm) != len(rungs) {
		t.Errorf("the normal form of %d rungs has %d: %.500s", len(rungs), len(norm), shown(rungs))
		return
	}
	for i, rung := range rungs {
		if alone := impl.NormMake([]impl.Arm{rung}); shown(alone) != shown(norm[i:i+1]) {
			t.Errorf("rung %d of %.500s has the normal form %.500s alone, but %.500s", i, shown(rungs), shown(alone), shown(norm[i:i+1]))
		}
	}
}

// wrongByPromise8 says what of promise 8 is broken in a ladder, or nothing.
func wrongByPromise8(rungs []impl.Arm) string {
	for _, arm := range armsOf(rungs) {
		for _, n := range netsOf(arm.Net) {
			if isBlock(n) && len(n.Kids) == 1 {
				return "a block has one kid alone"
			}
			for _, kid := range n.Kids {
				if isBlock(n) && kid.Kind == n.Kind {
					return "a net has a kid of its own kind"
				}
			}
		}
		if len(arm.Kids) == 1 && len(arm.Coils) == 0 {
			return "an arm with one kid has no coils"
		}
		if len(arm.Kids) == 1 && isNone(arm.Kids[0].Net) {
			return "the one kid of an arm has no net"
		}
	}
	return ""
}

// wantPromise8 holds a ladder that is accepted against promise 8; whoever keeps it is in normal form already.
func wantPromise8(t *testing.T, rungs []impl.Arm) {
	t.Helper()
	norm := impl.NormMake(rungs)
	if wrong := wrongByPromise8(norm); wrong != "" {
		t.Errorf("%s in %.500s, the normal form of %.500s", wrong, shown(norm), shown(rungs))
	}
	if keeps := wrongByPromise8(rungs) == ""; keeps != impl.NormIs(rungs) || keeps != impl.TreeSame(norm, rungs) {
		t.Errorf("%.500s keeps promise 8: %v, NormIs: %v", shown(rungs), keeps, impl.NormIs(rungs))
	}
}

// wantPromise9 holds a ladder that is accepted against promise 9, and its contacts and coils stay in their order.
func wantPromise9(t *testing.T, rungs []impl.Arm) {
	t.Helper()
	norm := impl.NormMake(rungs)
	asked := map[impl.DevArg]bool{{Kind: impl.DevX}: true, {}: true}
	for _, e := range append(elemsOf(rungs), elemsOf(norm)...) {
		for _, a := range e.Args {
			asked[a] = true
		}
	}
	for a := range asked {
		if uses, want := slowUses(shown(norm), a), slowUses(shown(rungs), a); uses != want || impl.TreeUses(norm, a) != want {
			t.Errorf("the normal form of %.500s names %v %d times, not %d", shown(rungs), a, uses, want)
		}
	}
	if got, want := fmt.Sprint(elemsOf(norm)), fmt.Sprint(elemsOf(rungs)); got != want {
		t.Errorf("the normal form of %.500s has the elements %.500s, not %.500s", shown(rungs), got, want)
	}
}

// someLadders are ladders that are accepted: all small ones of some kinds, and larger ones made by dice, up to the limits.
func someLadders(t *testing.T, each func(rungs []impl.Arm)) {
	coils := []impl.Elem{elem("out:Y0")}
	for parts := 1; parts <= 6; parts++ {
		for _, n := range rightNets(parts) {
			each(numbered([]impl.Arm{{Net: n, Coils: coils}}))
		}
	}
	nets := []impl.Net{{}, netOf("X0"), netOf("and( X0 X0 )"), netOf("or( X0 X0 )")}
	for arms := 1; arms <= 3; arms++ {
		for _, rung := range rightArms(arms, nets) {
			if rung.Net.Kind != 0 {
				each(numbered([]impl.Arm{rung}))
			}
		}
	}
	for _, rung := range chains(4, nets[:3]) {
		if rung.Net.Kind != 0 {
			each(numbered([]impl.Arm{rung}))
		}
	}
	for _, c := range append(netCases, armCases...) {
		each(ladder(rungOf(c.from)))
		each(ladder(rungOf(c.to)))
	}
	for _, fill := range fills {
		for _, c := range []struct{ rungs, size int }{{1, 400}, {2, 399}, {40, 120}, {40, 400}} {
			each(ladderOf(c.rungs, c.size, fill))
		}
	}
	madeLadders(t, each)
}

// madeLadders are made by dice, of many rungs and of few.
func madeLadders(t *testing.T, each func(rungs []impl.Arm)) {
	m := newMaker(41, 0)
	made := 0
	for range 500 {
		rungs := m.ladder(pick(&m.dice, []int{0, 1, 1, 2, 3, 5}))
		if slowCheck(rungs).Code == 0 {
			made++
			each(rungs)
		}
	}
	if made < 300 {
		t.Errorf("only %d ladders are accepted", made)
	}
}

// normCase is what is written, and its normal form.
type normCase struct {
	from, to string
}

// rungOf is a rung in writing; a net alone gets a coil.
func rungOf(text string) string {
	if strings.Contains(text, "->") {
		return text
	}
	return text + " -> out:Y0"
}

var netCases = []normCase{
	{"X0", "X0"},
	{"/X1", "/X1"},
	{"+X1:E2", "+X1:E2"},
	{"-5<=D1", "-5<=D1"},
	{"not( X0 )", "not( X0 )"},
	{"not( not( X0 ) )", "not( not( X0 ) )"},
	{"not( not( not( X0 ) ) )", "not( not( not( X0 ) ) )"},
	{"not( and( X0 ) )", "not( X0 )"},
	{"not( or( X0 ) )", "not( X0 )"},
	{"not( and( or( and( X0 ) ) ) )", "not( X0 )"},
	{"not( and( not( or( X0 ) ) ) )", "not( not( X0 ) )"},
	{"and( not( X0 ) )", "not( X0 )"},
	{"or( not( not( and( X0 ) ) ) )", "not( not( X0 ) )"},
	{"and( X0 )", "X0"},
	{"or( X0 )", "X0"},
	{"and( and( X0 ) )", "X0"},
	{"or( or( or( X0 ) ) )", "X0"},
	{"and( or( and( or( X0 ) ) ) )", "X0"},
	{"and( X0 X0 )", "and( X0 X0 )"},
	{"or( X0 X0 X0 )", "or( X0 X0 X0 )"},
	{"and( and( X0 X1 ) X2 X3 )", "and( X0 X1 X2 X3 )"},
	{"and( X0 and( X1 X2 ) X3 )", "and( X0 X1 X2 X3 )"},
	{"and( X0 X1 and( X2 X3 ) )", "and( X0 X1 X2 X3 )"},
	{"or( or( X0 X1 ) X2 X3 )", "or( X0 X1 X2 X3 )"},
	{"or( X0 or( X1 X2 ) X3 )", "or( X0 X1 X2 X3 )"},
	{"or( X0 X1 or( X2 X3 ) )", "or( X0 X1 X2 X3 )"},
	{"and( and( and( and( X0 X1 ) X2 ) X3 ) X4 )", "and( X0 X1 X2 X3 X4 )"},
	{"and( X0 and( X1 and( X2 and( X3 X4 ) ) ) )", "and( X0 X1 X2 X3 X4 )"},
	{"or( X0 or( X1 or( X2 X3 ) X4 ) X5 )", "or( X0 X1 X2 X3 X4 X5 )"},
	{"or( or( or( X0 X1 ) or( X2 X3 ) ) or( X4 or( X5 X6 ) ) )", "or( X0 X1 X2 X3 X4 X5 X6 )"},
	{"and( and( X0 X1 ) and( X2 X3 ) and( X4 X5 ) )", "and( X0 X1 X2 X3 X4 X5 )"},
	{"and( and( X0 X1 X2 ) )", "and( X0 X1 X2 )"},
	{"or( or( or( X0 X1 ) ) )", "or( X0 X1 )"},
	{"and( or( X0 X1 ) )", "or( X0 X1 )"},
	{"or( and( X0 X1 ) )", "and( X0 X1 )"},
	{"or( and( or( X0 X1 ) ) X2 )", "or( X0 X1 X2 )"},
	{"or( X2 and( or( X0 X1 ) ) )", "or( X2 X0 X1 )"},
	{"and( X2 or( and( X0 X1 ) ) X3 )", "and( X2 X0 X1 X3 )"},
	{"and( or( and( or( and( X0 X1 ) ) ) ) X2 )", "and( X0 X1 X2 )"},
	{"and( or( X0 ) X1 )", "and( X0 X1 )"},
	{"and( or( and( X0 X1 ) X2 ) X3 )", "and( or( and( X0 X1 ) X2 ) X3 )"},
	{"and( and( or( X0 or( X1 X2 ) ) X3 ) X4 )", "and( or( X0 X1 X2 ) X3 X4 )"},
	{"and( not( and( X0 X1 ) ) X2 )", "and( not( and( X0 X1 ) ) X2 )"},
	{"or( not( or( X0 or( X1 X2 ) ) ) or( X3 X4 ) )", "or( not( or( X0 X1 X2 ) ) X3 X4 )"},
	{"and( not( and( and( X0 X1 ) ) ) and( X2 ) )", "and( not( and( X0 X1 ) ) X2 )"},
	{"or( X0 and( X1 and( X2 or( X3 or( X4 X5 ) ) ) ) )", "or( X0 and( X1 X2 or( X3 X4 X5 ) ) )"},
	{"and( or( and( X0 ) and( or( X1 ) ) ) )", "or( X0 X1 )"},
}

var armCases = []normCase{
	{"X0 -> out:Y0", "X0 -> out:Y0"},
	{"X0 -> out:Y0 set:M1 out:Y0", "X0 -> out:Y0 set:M1 out:Y0"},
	{example, example},
	// One kid, and no coils.
	{"X0 -> [ X1 -> out:Y0 ]", "and( X0 X1 ) -> out:Y0"},
	{"X0 -> [ -> out:Y0 ]", "X0 -> out:Y0"},
	{"X0 -> [ X1 -> out:Y1 out:Y0 [ X2 -> out:Y2 | -> out:Y3 ] ]", "and( X0 X1 ) -> out:Y1 out:Y0 [ X2 -> out:Y2 | -> out:Y3 ]"},
	{"X0 -> [ X1 -> out:Y0 [ X2 -> out:Y1 ] ]", "and( X0 X1 ) -> out:Y0 [ X2 -> out:Y1 ]"},
	{"X0 -> [ -> out:Y0 [ X2 -> out:Y1 ] ]", "X0 -> out:Y0 [ X2 -> out:Y1 ]"},
	{"X0 -> [ -> [ X1 -> out:Y0 | X2 -> out:Y1 ] ]", "X0 -> [ X1 -> out:Y0 | X2 -> out:Y1 ]"},
	// One kid, and coils.
	{"X0 -> out:Y0 [ X1 -> out:Y1 ]", "X0 -> out:Y0 [ X1 -> out:Y1 ]"},
	{"X0 -> out:Y0 [ -> out:Y1 ]", "X0 -> out:Y0 out:Y1"},
	{"X0 -> out:Y2 set:M0 [ -> out:Y1 out:Y0 ]", "X0 -> out:Y2 set:M0 out:Y1 out:Y0"},
	{"X0 -> out:Y0 [ -> [ X1 -> out:Y1 | -> out:Y2 ] ]", "X0 -> out:Y0 [ X1 -> out:Y1 | -> out:Y2 ]"},
	{"X0 -> out:Y0 [ -> [ X1 -> out:Y1 ] ]", "X0 -> out:Y0 [ X1 -> out:Y1 ]"},
	{"X0 -> out:Y0 [ -> out:Y1 [ X1 -> out:Y2 ] ]", "X0 -> out:Y0 out:Y1 [ X1 -> out:Y2 ]"},
	{"X0 -> out:Y0 [ -> out:Y1 [ X1 -> out:Y2 | X2 -> out:Y3 ] ]", "X0 -> out:Y0 out:Y1 [ X1 -> out:Y2 | X2 -> out:Y3 ]"},
	{"X0 -> out:Y0 [ X1 -> [ -> out:Y1 ] ]", "X0 -> out:Y0 [ X1 -> out:Y1 ]"},
	{"X0 -> out:Y0 [ X1 -> out:Y1 [ -> out:Y2 ] ]", "X0 -> out:Y0 [ X1 -> out:Y1 out:Y2 ]"},
	{"X0 -> out:Y0 [ X1 -> out:Y1 [ X2 -> out:Y2 ] ]", "X0 -> out:Y0 [ X1 -> out:Y1 [ X2 -> out:Y2 ] ]"},
	{"X0 -> out:Y0 [ X1 -> [ X2 -> out:Y1 ] ]", "X0 -> out:Y0 [ and( X1 X2 ) -> out:Y1 ]"},
	// Kids that are taken in one behind the other.
	{"X0 -> [ X1 -> [ X2 -> [ X3 -> out:Y0 ] ] ]", "and( X0 X1 X2 X3 ) -> out:Y0"},
	{"X0 -> [ -> [ -> [ -> out:Y0 ] ] ]", "X0 -> out:Y0"},
	{"X0 -> out:Y3 [ -> out:Y2 [ -> out:Y1 [ -> out:Y0 ] ] ]", "X0 -> out:Y3 out:Y2 out:Y1 out:Y0"},
	{"X0 -> [ -> [ X1 -> [ -> [ X2 -> out:Y0 ] ] ] ]", "and( X0 X1 X2 ) -> out:Y0"},
	{"X0 -> out:Y0 [ -> [ -> [ X1 -> [ X2 -> out:Y1 ] ] ] ]", "X0 -> out:Y0 [ and( X1 X2 ) -> out:Y1 ]"},
	{"X0 -> [ X1 -> out:Y0 [ -> out:Y1 [ X2 -> [ X3 -> out:Y2 ] ] ] ]", "and( X0 X1 ) -> out:Y0 out:Y1 [ and( X2 X3 ) -> out:Y2 ]"},
	{"X0 -> [ -> out:Y0 [ -> [ -> out:Y1 [ X1 -> [ X2 -> out:Y2 | X3 -> out:Y3 ] ] ] ] ]", "X0 -> out:Y0 out:Y1 [ X1 -> [ X2 -> out:Y2 | X3 -> out:Y3 ] ]"},
	{"X0 -> [ X1 -> [ X2 -> [ X3 -> out:Y3 | X4 -> out:Y4 | -> out:Y5 ] ] ]", "and( X0 X1 X2 ) -> [ X3 -> out:Y3 | X4 -> out:Y4 | -> out:Y5 ]"},
	// Nets that join.
	{"and( X0 X1 ) -> [ X2 -> out:Y0 ]", "and( X0 X1 X2 ) -> out:Y0"},
	{"X0 -> [ and( X1 X2 ) -> out:Y0 ]", "and( X0 X1 X2 ) -> out:Y0"},
	{"and( X0 X1 ) -> [ and( X2 X3 ) -> out:Y0 ]", "and( X0 X1 X2 X3 ) -> out:Y0"},
	{"and( X0 X1 ) -> [ -> out:Y0 ]", "and( X0 X1 ) -> out:Y0"},
	{"or( X0 X1 ) -> [ or( X2 X3 ) -> out:Y0 ]", "and( or( X0 X1 ) or( X2 X3 ) ) -> out:Y0"},
	{"or( X0 X1 ) -> [ and( X2 X3 ) -> out:Y0 ]", "and( or( X0 X1 ) X2 X3 ) -> out:Y0"},
	{"not( X0 ) -> [ not( and( X1 X2 ) ) -> out:Y0 ]", "and( not( X0 ) not( and( X1 X2 ) ) ) -> out:Y0"},
	{"or( and( X0 X1 ) ) -> [ or( and( X2 ) ) -> out:Y0 ]", "and( X0 X1 X2 ) -> out:Y0"},
	{"and( or( and( X0 ) X1 ) ) -> [ and( X2 and( X3 X4 ) ) -> out:Y0 ]", "and( or( X0 X1 ) X2 X3 X4 ) -> out:Y0"},
	{"X0 -> [ X0 -> [ X0 -> out:Y0 ] ]", "and( X0 X0 X0 ) -> out:Y0"},
	// More kids than one stay, in their order, each in normal form.
	{"X0 -> [ X1 -> out:Y0 | X2 -> out:Y1 ]", "X0 -> [ X1 -> out:Y0 | X2 -> out:Y1 ]"},
	{"X0 -> [ -> out:Y0 | -> out:Y1 ]", "X0 -> [ -> out:Y0 | -> out:Y1 ]"},
	{"X0 -> out:Y0 [ X1 -> [ X2 -> out:Y1 ] | -> [ -> out:Y2 ] | -> [ X3 -> out:Y3 ] | X4 -> [ -> out:Y4 ] ]", "X0 -> out:Y0 [ and( X1 X2 ) -> out:Y1 | -> out:Y2 | X3 -> out:Y3 | X4 -> out:Y4 ]"},
	{"X0 -> [ -> [ and( X1 X2 ) -> [ and( X3 X4 ) -> out:Y0 ] ] | or( X5 ) -> out:Y1 [ -> set:M1 ] ]", "X0 -> [ and( X1 X2 X3 X4 ) -> out:Y0 | X5 -> out:Y1 set:M1 ]"},
	{"X0 -> [ -> [ -> out:Y0 | -> out:Y1 ] | -> out:Y2 ]", "X0 -> [ -> [ -> out:Y0 | -> out:Y1 ] | -> out:Y2 ]"},
	{"X0 -> [ X1 -> [ X2 -> out:Y0 | X3 -> out:Y1 ] | X4 -> out:Y2 ]", "X0 -> [ X1 -> [ X2 -> out:Y0 | X3 -> out:Y1 ] | X4 -> out:Y2 ]"},
}

// Normal forms of nets, told one by one: of the net alone, in another net, and in a ladder.
func TestNormNetCases(t *testing.T) {
	for _, c := range netCases {
		n, want := netOf(c.from), netOf(c.to)
		if got := impl.NormNet(n); shownNet(got) != shownNet(want) {
			t.Errorf("NormNet(%s) = %v, not %v", c.from, got, want)
		}
		if got := impl.NormNet(net(impl.NetNot, n)); shownNet(got) != shownNet(net(impl.NetNot, want)) {
			t.Errorf("NormNet(not( %s )) = %v", c.from, got)
		}
		wantMade(t, []string{rungOf(c.from)}, []string{rungOf(c.to)})
	}
}

// Normal forms of arms, told one by one: as a rung, as one of two kids, and among other rungs.
func TestNormArmCases(t *testing.T) {
	for _, c := range armCases {
		wantMade(t, []string{c.from}, []string{c.to})
		wantMade(t, []string{"X9 -> [ -> out:Y9 | " + c.from + " ]"}, []string{"X9 -> [ -> out:Y9 | " + c.to + " ]"})
		wantMade(t, []string{"X9 -> out:Y9 [ " + c.from + " ]"}, []string{"X9 -> out:Y9 [ " + c.to + " ]"})
		wantMade(t, []string{"or( X9 ) -> out:Y9", c.from, c.from, "X8 -> [ -> out:Y8 ]"}, []string{"X9 -> out:Y9", c.to, c.to, "X8 -> out:Y8"})
	}
}

// wantMade holds NormMake and NormIs against a normal form in writing.
func wantMade(t *testing.T, from, to []string) {
	t.Helper()
	rungs, want := ladder(from...), ladder(to...)
	if got := impl.NormMake(rungs); shown(got) != shown(want) || !impl.TreeSame(got, want) {
		t.Errorf("NormMake(%q) = %v, not %q", from, got, to)
	}
	if is := impl.NormIs(rungs); is != slices.Equal(from, to) {
		t.Errorf("NormIs(%q) is %v", from, is)
	}
	if !impl.NormIs(want) {
		t.Errorf("NormIs(%q) is false", to)
	}
}

// The example of the document is in normal form; the empty ladder is too.
func TestNormOfTheEmptyLadder(t *testing.T) {
	for _, rungs := range [][]impl.Arm{nil, {}, make([]impl.Arm, 0, 5)} {
		if got := impl.NormMake(rungs); len(got) != 0 || !impl.NormIs(rungs) {
			t.Errorf("%v, %v", got, impl.NormIs(rungs))
		}
	}
	if !impl.NormIs(ladder(example)) {
		t.Error("the example is not in normal form")
	}
}

// Nets of just so many nets, in several shapes.
var netShapes = map[string]func(nets int) impl.Net{
	"wide": func(nets int) impl.Net {
		n := impl.Net{Kind: impl.NetOr}
		for i := range nets - 1 {
			n.Kids = append(n.Kids, netOf(fmt.Sprint("X", i%32)))
		}
		return n
	},
	"nots": func(nets int) impl.Net {
		n := netOf("X0")
		for range nets - 1 {
			n = net(impl.NetNot, n)
		}
		return n
	},
	"blocks of one kid": func(nets int) impl.Net {
		n := netOf("X0")
		for i := range nets - 1 {
			n = net(impl.NetAnd+i%2, n)
		}
		return n
	},
	"ands within ands": func(nets int) impl.Net {
		n := netOf("X0")
		for range (nets - 1) / 2 {
			n = net(impl.NetAnd, n, netOf("/X1"))
		}
		if nets%2 == 0 {
			n = net(impl.NetOr, n)
		}
		return n
	},
	"all kinds": func(nets int) impl.Net {
		n, now := netOf("X0"), 1
		for i := 0; now < nets; i++ {
			if n = net(impl.NetAnd+i%3, n); i%3 < 2 && now+2 <= nets {
				n.Kids = append(n.Kids, netOf("X1"))
				now++
			}
			now++
		}
		return n
	},
}

// NormNet counts the nets alone: 400 of them have a normal form, though no ladder has room for them.
func TestNormNetLimit(t *testing.T) {
	d := &dice{5}
	for name, shape := range netShapes {
		for _, nets := range []int{2, 3, 396, 397, 398, 399, 400, 401, 402, 500} {
			n := shape(nets)
			if count := len(netsOf(n)); count != nets {
				t.Fatalf("%s: %d nets, not %d", name, count, nets)
			}
			if got := impl.NormNet(n); isNone(got) != (nets > 400) {
				t.Errorf("%s: of %d nets %.500s", name, nets, shownNet(got))
			}
			wantNormNet(t, n, d)
			wantNorm(t, []impl.Arm{{Net: n, Coils: []impl.Elem{elem("out:Y0")}}}, d)
		}
	}
}

// NormNet of nets that are wrong at the top, and further down, and of none.
func TestNormNetWrong(t *testing.T) {
	out, x := elem("out:Y0"), elem("X0")
	right := contact(x)
	for i, wrong := range []impl.Net{
		{}, {One: impl.Elem{Args: []impl.DevArg{}}, Kids: []impl.Net{}}, {Kids: []impl.Net{right}}, {Kids: []impl.Net{{}}}, {One: x}, {One: impl.Elem{Op: 1}}, {One: impl.Elem{Args: []impl.DevArg{{}}}},
		{Kind: 1}, {Kind: 1, One: out}, {Kind: 1, One: x, Kids: []impl.Net{right}}, {Kind: 1, One: impl.Elem{Op: 1, Args: []impl.DevArg{{Kind: 1, N: 32}}}}, {Kind: 1, One: impl.Elem{Op: 1, Args: []impl.DevArg{{Kind: 1}, {Kind: 1}}}},
		{Kind: 2}, {Kind: 2, Kids: []impl.Net{}}, {Kind: 2, One: x, Kids: []impl.Net{right, right}}, {Kind: 2, One: x, Kids: []impl.Net{right}},
		{Kind: 3}, {Kind: 3, One: impl.Elem{Op: 1}, Kids: []impl.Net{right, right}}, {Kind: 3, One: impl.Elem{Args: []impl.DevArg{{}}}, Kids: []impl.Net{right}},
		{Kind: 4}, {Kind: 4, Kids: []impl.Net{right, right}}, {Kind: 4, One: x, Kids: []impl.Net{right}},
		{Kind: -1, Kids: []impl.Net{right}}, {Kind: 5, Kids: []impl.Net{right}}, {Kind: 5, One: x}, {Kind: math.MinInt}, {Kind: math.MaxInt, Kids: []impl.Net{right}},
	} {
		for where, n := range []impl.Net{
			wrong, net(2, wrong), net(3, wrong), net(4, wrong), net(2, right, wrong), net(2, wrong, right), net(3, right, wrong, right),
			net(2, net(2, wrong), right), net(4, net(3, right, net(4, net(2, right, wrong)))), net(2, right, net(2, right, net(2, wrong))),
		} {
			if got := impl.NormNet(n); !isNone(got) {
				t.Errorf("wrong net %d in %d: %v", i, where, got)
			}
			rungs := ladder("X0 -> out:Y0", "X0 -> out:Y0")
			rungs[1].Net = n
			if got := impl.NormMake(rungs); len(got) != 0 || impl.NormIs(rungs) {
				t.Errorf("wrong net %d in %d: %v", i, where, got)
			}
		}
	}
}

// NormNet of all small nets, right or wrong, and of those with which nothing is wrong some larger ones too.
func TestNormNetSmall(t *testing.T) {
	d := &dice{6}
	right := netOf("X1")
	for i, n := range smallNets() {
		wantNormNet(t, n, d)
		if i%5 == 0 {
			wantNormNet(t, net(impl.NetOr, right, net(impl.NetAnd, n), net(impl.NetOr, n, right)), d)
		}
	}
	for parts := 1; parts <= 6; parts++ {
		for _, n := range rightNets(parts) {
			wantNormNet(t, numbered([]impl.Arm{{Net: n}})[0].Net, d)
		}
	}
}

// NormNet of nets made by dice, right or wrong.
func TestNormNetMade(t *testing.T) {
	d := &dice{7}
	for _, bad := range []int{0, 0, 20, 200} {
		m := newMaker(uint64(bad)+31, bad)
		for range 300 {
			wantNormNet(t, m.net(m.below(6)), d)
		}
	}
}

// NormMake and NormIs of ladders with each code, and of all small arms, right or wrong.
func TestNormMakeWrong(t *testing.T) {
	right := ladder("X0 -> [ -> out:Y0 ]")[0]
	x, out := elem("X0"), elem("out:Y0")
	for code, wrong := range map[int][]impl.Arm{
		impl.TreeMany:    slices.Repeat([]impl.Arm{right}, 41),
		impl.TreeBadNet:  {right, {Net: net(impl.NetAnd), Coils: []impl.Elem{out}}},
		impl.TreeBadElem: {right, {Net: contact(x), Coils: []impl.Elem{x}}},
		impl.TreeNoNet:   {right, {Coils: []impl.Elem{out}}},
		impl.TreeNoCoil:  {right, {Net: contact(x), Kids: []impl.Arm{{Net: contact(x)}}}},
	} {
		if got := impl.TreeCheck(wrong).Code; got != code {
			t.Fatalf("the code is %d, not %d", got, code)
		}
		if got := impl.NormMake(wrong); len(got) != 0 || impl.NormIs(wrong) {
			t.Errorf("code %d: %.500s, %v", code, shown(got), impl.NormIs(wrong))
		}
	}
	d := &dice{8}
	leaves, all := smallArms()
	for i, arm := range all {
		wantNorm(t, []impl.Arm{arm}, d)
		wantNorm(t, []impl.Arm{right, {Net: right.Net, Kids: []impl.Arm{arm}}}, d)
		if i%3 == 0 {
			wantNorm(t, []impl.Arm{leaves[i%len(leaves)], arm}, d)
		}
	}
}

// Ladders made by dice, many of them wrong somewhere.
func TestNormMade(t *testing.T) {
	d := &dice{9}
	for _, bad := range []int{0, 3, 20, 100} {
		m := newMaker(uint64(bad)+51, bad)
		for range 250 {
			wantNorm(t, m.ladder(pick(&m.dice, []int{0, 1, 2, 3, 8, 41})), d)
		}
	}
}

// Ladders at both limits: one more is refused.
func TestNormLimits(t *testing.T) {
	d := &dice{10}
	for name, fill := range fills {
		for _, c := range []struct{ rungs, size int }{{1, 399}, {1, 400}, {1, 401}, {39, 400}, {40, 400}, {40, 401}, {41, 400}, {41, 123}, {1, 3000}} {
			rungs := ladderOf(c.rungs, c.size, fill)
			if got := impl.NormMake(rungs); (len(got) == 0) != (c.rungs > 40 || c.size > 400) {
				t.Errorf("%s: of %d rungs and %d parts %d rungs are left", name, c.rungs, c.size, len(got))
			}
			wantNorm(t, rungs, d)
		}
	}
}

// What is far too large, or holds itself, has no normal form.
func TestNormOfWhatIsFarTooLarge(t *testing.T) {
	nets := []impl.Net{netOf("not( X0 )")}
	nets[0].Kids = nets
	arms := ladder("X0 -> out:Y0")
	arms[0].Kids = arms
	coils := []impl.Elem{elem("out:Y0")}
	for i, rungs := range append(deepLadders(200000), arms, []impl.Arm{{Net: nets[0], Coils: coils}}, []impl.Arm{{Net: net(impl.NetAnd, nets...), Coils: coils}}) {
		if got := impl.NormMake(rungs); len(got) != 0 || impl.NormIs(rungs) {
			t.Errorf("ladder %d has a normal form, or is one", i)
		}
		if n := rungs[0].Net; n.Kind != impl.NetContact && impl.NormNet(n).Kind != impl.NetNone {
			t.Errorf("net %d has a normal form", i)
		}
	}
}

// NormIs of normal forms, and of all ladders that are a step away from one, which have the same normal form.
func TestNormIsStepsAway(t *testing.T) {
	d := &dice{11}
	for _, c := range append(netCases, armCases...) {
		norm := ladder(rungOf(c.to), "X9 -> out:Y9")
		if !impl.NormIs(norm) {
			t.Errorf("NormIs(%s) is false", c.to)
		}
		for _, back := range backLadders(norm) {
			if impl.TreeCheck(back).Code != 0 || impl.NormIs(back) || shown(impl.NormMake(back)) != shown(norm) {
				t.Errorf("%v is a step away from %s, but its normal form is %v, and NormIs is %v", back, c.to, impl.NormMake(back), impl.NormIs(back))
			}
			further := backLadders(back)
			wantNorm(t, further[d.below(len(further))], d)
		}
	}
}

// NormIs of all ladders that differ from a normal form in one part.
func TestNormIsOneOff(t *testing.T) {
	d := &dice{12}
	for _, rungs := range [][]impl.Arm{
		ladder("X0 -> out:Y0"),
		ladder(example),
		ladder("or( X0 not( +X1:E2 ) ) -> out:Y0 timer:T1,5 [ D1<D2 -> set:M1 | -> [ X0 -> add:D1,D2,3 | -> out:Y0 ] ]", "X0 -> out:Y0", "X0 -> out:Y0 [ X1 -> out:Y1 ]"),
	} {
		if !impl.NormIs(rungs) {
			t.Errorf("NormIs(%v) is false", rungs)
		}
		for _, other := range oneOff(rungs) {
			wantNorm(t, other, d)
		}
	}
}

// Promise 7.
func TestPromise7(t *testing.T) {
	someLadders(t, func(rungs []impl.Arm) { wantPromise7(t, rungs) })
}

// Promise 8.
func TestPromise8(t *testing.T) {
	someLadders(t, func(rungs []impl.Arm) { wantPromise8(t, rungs) })
}

// Promise 9.
func TestPromise9(t *testing.T) {
	someLadders(t, func(rungs []impl.Arm) { wantPromise9(t, rungs) })
}

// Promises 7, 8 and 9, against the tests' own telling.
func TestPromise7And8And9Steps(t *testing.T) {
	d := &dice{13}
	someLadders(t, func(rungs []impl.Arm) { wantNorm(t, rungs, d) })
}

// What is handed in stays as it was, the answer is in memory of its own, and a second call answers the same.
func TestNormMemory(t *testing.T) {
	d := &dice{14}
	i := 0
	someLadders(t, func(rungs []impl.Arm) {
		if i++; i%7 > 0 && len(rungs) == 1 {
			return
		}
		want, _ := slowNorm(rungs, d)
		given := copied(rungs)
		before := whole(given)
		wantOwnMemory(t, given, want)
		if whole(given) != before {
			t.Errorf("a ladder was written into: %.500s", shown(rungs))
		}
		crowd := newCrowd(rungs)
		given = crowd.ladder(rungs)
		before = crowd.text()
		wantOwnMemory(t, given, want)
		if crowd.text() != before {
			t.Errorf("a ladder was written into, or behind its ends: %.500s", shown(rungs))
		}
		given = alike(rungs)
		wantOwnMemory(t, given, want)
	})
}

func wantOwnMemory(t *testing.T, rungs, want []impl.Arm) {
	t.Helper()
	norm := impl.NormMake(rungs)
	wantApart(t, rungs, norm)
	impl.NormIs(rungs)
	impl.NormIs(norm)
	for _, arm := range armsOf(rungs) {
		n := impl.NormNet(arm.Net)
		wantApart(t, arm.Net, n)
		wantApart(t, norm, n)
	}
	if again := impl.NormMake(rungs); shown(norm) != shown(want) || shown(again) != shown(want) {
		t.Errorf("%.500s has the normal form %.500s, and then %.500s, not %.500s", shown(rungs), shown(norm), shown(again), shown(want))
	}
}

package tests

import (
	"fmt"
	"math"
	"reflect"
	"runtime"
	"slices"
	"strings"
	"sync"
	"testing"

	"loop.example/stilway/impl"
)

func TestWayConstants(t *testing.T) {
	if impl.WayBad != 1 || impl.WayDeep != 2 {
		t.Errorf("codes %d and %d", impl.WayBad, impl.WayDeep)
	}
}

// wantNoWay is of a ladder that is not accepted.
func wantNoWay(t *testing.T, rungs []impl.Arm) {
	t.Helper()
	plain, bits, forks := impl.WayPlain(rungs), impl.WayBits(rungs), impl.WayForks(rungs)
	down, code := impl.WayDown(rungs)
	if len(plain) != 0 || bits != 0 || forks != 0 || len(down) != 0 || code != impl.WayBad {
		t.Errorf("a ladder that is not accepted: WayPlain %.200s, WayDown %.200s and %d, %d bits, %d forks", shownList(plain), shownList(down), code, bits, forks)
	}
}

// wantAnswers holds the four answers of a ladder that is accepted against a list and its depths.
func wantAnswers(t *testing.T, rungs []impl.Arm, list []impl.Inst, bits, forks int) {
	t.Helper()
	if got := impl.WayPlain(rungs); shownList(got) != shownList(list) {
		t.Errorf("WayPlain of %.500s = %.500s, not %.500s", shown(rungs), impl.ListText(got), impl.ListText(list))
	}
	if got := impl.WayBits(rungs); got != bits {
		t.Errorf("WayBits of %.500s = %d, not %d", shown(rungs), got, bits)
	}
	if got := impl.WayForks(rungs); got != forks {
		t.Errorf("WayForks of %.500s = %d, not %d", shown(rungs), got, forks)
	}
	code := 0
	if bits > 16 || forks > 8 {
		list, code = nil, 2
	}
	if got, gotCode := impl.WayDown(rungs); shownList(got) != shownList(list) || gotCode != code {
		t.Errorf("WayDown of %.500s = %.500s and %d, not %.500s and %d", shown(rungs), impl.ListText(got), gotCode, impl.ListText(list), code)
	}
}

// wantPromise15 is of any ladder: what WayDown gives is verified, and with a code it gives nothing.
func wantPromise15(t *testing.T, rungs []impl.Arm) {
	t.Helper()
	list, code := impl.WayDown(rungs)
	if code != 0 && len(list) != 0 {
		t.Errorf("WayDown of %.500s gives code %d and a list", shown(rungs), code)
	}
	if got, slow := impl.SureCheck(list), slowSure(list); got != (impl.SureFault{}) || slow != got {
		t.Errorf("the list of %.500s is not verified: %v, %v: %.500s", shown(rungs), got, slow, impl.ListText(list))
	}
}

// wantPromise16 is of a ladder that is accepted.
func wantPromise16(t *testing.T, rungs []impl.Arm) {
	t.Helper()
	plain, bits, forks := impl.WayPlain(rungs), impl.WayBits(rungs), impl.WayForks(rungs)
	if peak := impl.SurePeak(plain); peak != (impl.SureState{Bits: bits, Forks: forks}) {
		t.Errorf("%.500s needs %d bits and %d forks, but the peaks are %v", shown(rungs), bits, forks, peak)
	}
	_, code := impl.WayDown(rungs)
	if deep := bits > 16 || forks > 8; deep != (code == impl.WayDeep) || !deep && code != 0 {
		t.Errorf("%.500s needs %d bits and %d forks, but WayDown gives code %d", shown(rungs), bits, forks, code)
	}
}

// wantPromise17 is of a ladder that is accepted: its normal form has the same answers, and the answers of its rungs, each alone, are its own.
func wantPromise17(t *testing.T, rungs []impl.Arm) {
	t.Helper()
	plain, bits, forks := impl.WayPlain(rungs), impl.WayBits(rungs), impl.WayForks(rungs)
	wantAnswers(t, impl.NormMake(rungs), plain, bits, forks)
	down, code := impl.WayDown(rungs)
	var lists [][]impl.Inst
	mostBits, mostForks, mostCode := 0, 0, 0
	for i := range rungs {
		alone := rungs[i : i+1]
		lists = append(lists, impl.WayPlain(alone))
		mostBits, mostForks = max(mostBits, impl.WayBits(alone)), max(mostForks, impl.WayForks(alone))
		_, aloneCode := impl.WayDown(alone)
		mostCode = max(mostCode, aloneCode)
	}
	if all := slices.Concat(lists...); shownList(all) != shownList(plain) {
		t.Errorf("%.500s goes down to %.500s, but its rungs to %.500s", shown(rungs), impl.ListText(plain), impl.ListText(all))
	}
	if mostBits != bits || mostForks != forks || mostCode != code {
		t.Errorf("%.500s needs %d bits and %d forks, code %d, but its rungs %d and %d, code %d", shown(rungs), bits, forks, code, mostBits, mostForks, mostCode)
	}
	if again := impl.SureRungs(down); code == 0 && fmt.Sprint(again) != fmt.Sprint(lists) {
		t.Errorf("the list of %.500s has the rungs %.500s, not %.500s", shown(rungs), fmt.Sprint(again), fmt.Sprint(lists))
	}
}

// wantWay holds all that is said of a ladder, accepted or not, against the second telling, and the promises against their own words.
func wantWay(t *testing.T, rungs []impl.Arm) {
	t.Helper()
	wantPromise15(t, rungs)
	if slowCheck(rungs).Code != 0 {
		wantNoWay(t, rungs)
		return
	}
	norm, _ := slowNorm(rungs, &dice{15})
	list := slowPlain(norm)
	peak := slowPeak(list)
	wantAnswers(t, rungs, list, peak.Bits, peak.Forks)
	wantPromise16(t, rungs)
	wantPromise17(t, rungs)
}

// wantDown holds a ladder against its list and its depths in writing, and runs the list.
func wantDown(t *testing.T, rungs []impl.Arm, list string, bits, forks int) {
	t.Helper()
	wantAnswers(t, rungs, lines(list), bits, forks)
	wantWay(t, rungs)
	wantCurrent(t, rungs, 8)
}

// The document's example, word for word.
func TestPromise15And16Example(t *testing.T) {
	const list = "ld X0; and X1; ld X2; ld X3; or X4; inv; anb; orb; coil out:Y0; mps; and X5; coil out:Y1; mrd; ld X6; or X7; anb; coil out:Y2; and X8; coil set:M1; mpp; coil reset:M1; end"
	wantDown(t, ladder(example), list, 3, 1)
	down, code := impl.WayDown(ladder(example))
	if text := impl.ListText(down); code != 0 || text != strings.ReplaceAll(list, "; ", "\n")+"\n" {
		t.Errorf("%d %q", code, text)
	}
}

// wayCase is a net in writing, how it begins, and how many bits that needs.
type wayCase struct {
	net, list string
	bits      int
}

var wayCases = []wayCase{
	// Each kind, and each as the first kid of another.
	{"X0", "ld X0", 1},
	{"/X1", "ld /X1", 1},
	{"+X1:E2", "ld +X1:E2", 1},
	{"-5<=D1", "ld -5<=D1", 1},
	{"and( X0 X1 )", "ld X0; and X1", 1},
	{"and( X0 /X1 D1<D2 R1=nan )", "ld X0; and /X1; and D1<D2; and R1=nan", 1},
	{"or( X0 X1 )", "ld X0; or X1", 1},
	{"or( X0 /X1 -X2:E0 T1>=5 )", "ld X0; or /X1; or -X2:E0; or T1>=5", 1},
	{"and( or( X0 X1 ) X2 )", "ld X0; or X1; and X2", 1},
	{"and( not( X0 ) X1 )", "ld X0; inv; and X1", 1},
	{"or( and( X0 X1 ) X2 )", "ld X0; and X1; or X2", 1},
	{"or( not( X0 ) X1 )", "ld X0; inv; or X1", 1},
	{"and( or( and( or( X0 X1 ) X2 ) X3 ) X4 )", "ld X0; or X1; and X2; or X3; and X4", 1},
	// Each kind as a further kid, at the end and between.
	{"and( X0 or( X1 X2 ) )", "ld X0; ld X1; or X2; anb", 2},
	{"and( X0 or( X1 X2 ) X3 )", "ld X0; ld X1; or X2; anb; and X3", 2},
	{"and( X0 not( X1 ) )", "ld X0; ld X1; inv; anb", 2},
	{"and( X0 not( X1 ) X2 )", "ld X0; ld X1; inv; anb; and X2", 2},
	{"or( X0 and( X1 X2 ) )", "ld X0; ld X1; and X2; orb", 2},
	{"or( X0 and( X1 X2 ) X3 )", "ld X0; ld X1; and X2; orb; or X3", 2},
	{"or( X0 not( X1 ) )", "ld X0; ld X1; inv; orb", 2},
	{"or( X0 not( X1 ) X2 )", "ld X0; ld X1; inv; orb; or X2", 2},
	{"and( or( X0 X1 ) or( X2 X3 ) )", "ld X0; or X1; ld X2; or X3; anb", 2},
	{"or( and( X0 X1 ) not( X2 ) and( X3 X4 ) )", "ld X0; and X1; ld X2; inv; orb; ld X3; and X4; orb", 2},
	{"and( not( X0 ) not( X1 ) not( X2 ) )", "ld X0; inv; ld X1; inv; anb; ld X2; inv; anb", 2},
	{"and( X0 or( X1 and( X2 X3 ) ) )", "ld X0; ld X1; ld X2; and X3; orb; anb", 3},
	{"or( X0 and( X1 or( X2 X3 ) ) X4 )", "ld X0; ld X1; ld X2; or X3; anb; orb; or X4", 3},
	{"and( X0 or( and( X1 X2 ) X3 ) )", "ld X0; ld X1; and X2; or X3; anb", 2},
	{"and( or( X0 and( X1 X2 ) ) X3 )", "ld X0; ld X1; and X2; orb; and X3", 2},
	{"and( or( X0 and( X1 or( X2 X3 ) ) ) not( X4 ) )", "ld X0; ld X1; ld X2; or X3; anb; orb; ld X4; inv; anb", 3},
	{"and( not( X0 ) or( X1 and( X2 X3 ) ) or( X4 X5 ) )", "ld X0; inv; ld X1; ld X2; and X3; orb; anb; ld X4; or X5; anb", 3},
	// A NetNot of each kind.
	{"not( X0 )", "ld X0; inv", 1},
	{"not( not( X0 ) )", "ld X0; inv; inv", 1},
	{"not( not( not( X0 ) ) )", "ld X0; inv; inv; inv", 1},
	{"not( and( X0 X1 ) )", "ld X0; and X1; inv", 1},
	{"not( or( X0 X1 ) )", "ld X0; or X1; inv", 1},
	{"not( and( X0 or( X1 X2 ) ) )", "ld X0; ld X1; or X2; anb; inv", 2},
	{"not( or( X0 not( X1 ) ) )", "ld X0; ld X1; inv; orb; inv", 2},
	{"and( X0 not( not( X1 ) ) )", "ld X0; ld X1; inv; inv; anb", 2},
	{"and( X0 not( and( X1 X2 ) ) )", "ld X0; ld X1; and X2; inv; anb", 2},
	{"or( X0 not( or( X1 X2 ) ) )", "ld X0; ld X1; or X2; inv; orb", 2},
	{"and( X0 not( or( X1 not( X2 ) ) ) )", "ld X0; ld X1; ld X2; inv; orb; inv; anb", 3},
}

// Promises 15 and 16, of nets as a rung's net, told one by one.
func TestPromise15And16Nets(t *testing.T) {
	for _, c := range wayCases {
		wantDown(t, ladder(c.net+" -> out:Y0"), c.list+"; coil out:Y0; end", c.bits, 0)
		wantDown(t, ladder("not( "+c.net+" ) -> out:Y0 set:M1"), c.list+"; inv; coil out:Y0; coil set:M1; end", c.bits, 0)
	}
}

// Promises 15 and 16, of each net as a kid of another one and as one behind an arm: a contact by one instruction without a bit more, any other by beginning, then `anb` or `orb`, with one more.
func TestPromise15And16TakenIn(t *testing.T) {
	for _, c := range wayCases {
		kind := netOf(c.net).Kind
		for into, words := range map[int][3]string{impl.NetAnd: {"and( ", "and", "anb"}, impl.NetOr: {"or( ", "or", "orb"}} {
			if kind == into {
				continue
			}
			taken, bits := c.list+"; "+words[2], c.bits+1
			if kind == impl.NetContact {
				taken, bits = words[1]+strings.TrimPrefix(c.list, "ld"), 1
			}
			coil := "; coil out:Y0; end"
			wantDown(t, ladder(words[0]+c.net+" X9 ) -> out:Y0"), c.list+"; "+words[1]+" X9"+coil, c.bits, 0)
			wantDown(t, ladder(words[0]+"X9 "+c.net+" ) -> out:Y0"), "ld X9; "+taken+coil, bits, 0)
			wantDown(t, ladder(words[0]+"X9 "+c.net+" "+c.net+" ) -> out:Y0"), "ld X9; "+taken+"; "+taken+coil, bits, 0)
			wantDown(t, ladder(words[0]+"X9 "+c.net+" X8 ) -> out:Y0"), "ld X9; "+taken+"; "+words[1]+" X8"+coil, bits, 0)
			if into == impl.NetAnd {
				wantDown(t, ladder("X9 -> out:Y9 [ "+c.net+" -> out:Y0 ]"), "ld X9; coil out:Y9; "+taken+coil, bits, 0)
				wantDown(t, ladder("X9 -> [ "+c.net+" -> out:Y9 | "+c.net+" -> out:Y0 ]"), "ld X9; mps; "+taken+"; coil out:Y9; mpp; "+taken+coil, bits, 1)
				wantDown(t, ladder("X9 -> [ -> out:Y9 | X9 -> out:Y9 [ "+c.net+" -> out:Y0 ] ]"), "ld X9; mps; coil out:Y9; mpp; and X9; coil out:Y9; "+taken+coil, bits, 1)
			}
		}
	}
}

// Promises 15 and 16, of a kid whose net is a NetAnd: its Kids are taken in, one by one, the first too.
func TestPromise15And16AndBehind(t *testing.T) {
	for _, c := range []wayCase{
		{"and( X1 X2 )", "and X1; and X2", 1},
		{"and( X1 X2 X3 )", "and X1; and X2; and X3", 1},
		{"and( X1 or( X2 X3 ) )", "and X1; ld X2; or X3; anb", 2},
		{"and( or( X1 X2 ) X3 )", "ld X1; or X2; anb; and X3", 2},
		{"and( or( X1 X2 ) or( X3 X4 ) )", "ld X1; or X2; anb; ld X3; or X4; anb", 2},
		{"and( not( X1 ) X2 )", "ld X1; inv; anb; and X2", 2},
		{"and( X1 not( and( X2 X3 ) ) X4 )", "and X1; ld X2; and X3; inv; anb; and X4", 2},
		{"and( or( X1 and( X2 X3 ) ) X4 )", "ld X1; ld X2; and X3; orb; anb; and X4", 3},
		{"and( or( X1 and( X2 or( X3 X4 ) ) ) X4 )", "ld X1; ld X2; ld X3; or X4; anb; orb; anb; and X4", 4},
	} {
		wantDown(t, ladder("X0 -> out:Y0 [ "+c.net+" -> out:Y1 ]"), "ld X0; coil out:Y0; "+c.list+"; coil out:Y1; end", c.bits, 0)
		wantDown(t, ladder("X0 -> [ "+c.net+" -> out:Y1 | -> out:Y2 ]"), "ld X0; mps; "+c.list+"; coil out:Y1; mpp; coil out:Y2; end", c.bits, 1)
		wantDown(t, ladder("X0 -> [ -> out:Y1 | -> out:Y2 | "+c.net+" -> out:Y3 ]"), "ld X0; mps; coil out:Y1; mrd; coil out:Y2; mpp; "+c.list+"; coil out:Y3; end", c.bits, 1)
		wantDown(t, ladder("or( X0 X9 ) -> out:Y0 [ X8 -> out:Y1 [ "+c.net+" -> out:Y2 ] ]"), "ld X0; or X9; coil out:Y0; and X8; coil out:Y1; "+c.list+"; coil out:Y2; end", c.bits, 0)
	}
}

// wayArms are rungs in writing, each with its list and its depths.
var wayArms = []struct {
	rung, list  string
	bits, forks int
}{
	{"X0 -> out:Y0", "ld X0; coil out:Y0; end", 1, 0},
	{"X0 -> out:Y2 set:M1 timer:T1,50 out:Y2", "ld X0; coil out:Y2; coil set:M1; coil timer:T1,50; coil out:Y2; end", 1, 0},
	// One kid has no fork.
	{"X0 -> out:Y0 [ X1 -> out:Y1 ]", "ld X0; coil out:Y0; and X1; coil out:Y1; end", 1, 0},
	{"X0 -> out:Y0 [ X1 -> out:Y1 [ X2 -> out:Y2 ] ]", "ld X0; coil out:Y0; and X1; coil out:Y1; and X2; coil out:Y2; end", 1, 0},
	{"X0 -> out:Y0 [ or( X1 X2 ) -> out:Y1 ]", "ld X0; coil out:Y0; ld X1; or X2; anb; coil out:Y1; end", 2, 0},
	{"X0 -> out:Y0 [ not( X1 ) -> out:Y1 ]", "ld X0; coil out:Y0; ld X1; inv; anb; coil out:Y1; end", 2, 0},
	{"X0 -> out:Y0 [ not( and( X1 X2 ) ) -> out:Y1 ]", "ld X0; coil out:Y0; ld X1; and X2; inv; anb; coil out:Y1; end", 2, 0},
	// Two, three and more.
	{"X0 -> [ X1 -> out:Y1 | X2 -> out:Y2 ]", "ld X0; mps; and X1; coil out:Y1; mpp; and X2; coil out:Y2; end", 1, 1},
	{"X0 -> [ -> out:Y1 | -> out:Y2 ]", "ld X0; mps; coil out:Y1; mpp; coil out:Y2; end", 1, 1},
	{"X0 -> out:Y0 [ X1 -> out:Y1 | X2 -> out:Y2 ]", "ld X0; coil out:Y0; mps; and X1; coil out:Y1; mpp; and X2; coil out:Y2; end", 1, 1},
	{"X0 -> [ X1 -> out:Y1 | X2 -> out:Y2 | X3 -> out:Y3 ]", "ld X0; mps; and X1; coil out:Y1; mrd; and X2; coil out:Y2; mpp; and X3; coil out:Y3; end", 1, 1},
	{"X0 -> [ -> out:Y1 | -> out:Y2 | -> out:Y3 | -> out:Y4 | -> out:Y5 ]", "ld X0; mps; coil out:Y1; mrd; coil out:Y2; mrd; coil out:Y3; mrd; coil out:Y4; mpp; coil out:Y5; end", 1, 1},
	{"X0 -> [ or( X1 X2 ) -> out:Y1 | not( X3 ) -> out:Y2 | and( X4 X5 ) -> out:Y3 | -> out:Y4 ]", "ld X0; mps; ld X1; or X2; anb; coil out:Y1; mrd; ld X3; inv; anb; coil out:Y2; mrd; and X4; and X5; coil out:Y3; mpp; coil out:Y4; end", 2, 1},
	// Kids within kids.
	{"X0 -> [ -> [ -> out:Y1 | -> out:Y2 ] | -> out:Y3 ]", "ld X0; mps; mps; coil out:Y1; mpp; coil out:Y2; mpp; coil out:Y3; end", 1, 2},
	{"X0 -> [ -> out:Y1 | -> [ -> out:Y2 | -> out:Y3 ] ]", "ld X0; mps; coil out:Y1; mpp; mps; coil out:Y2; mpp; coil out:Y3; end", 1, 1},
	{"X0 -> [ -> out:Y1 | -> [ -> out:Y2 | -> out:Y3 ] | -> out:Y4 ]", "ld X0; mps; coil out:Y1; mrd; mps; coil out:Y2; mpp; coil out:Y3; mpp; coil out:Y4; end", 1, 2},
	{"X0 -> out:Y0 [ X1 -> [ X2 -> out:Y2 | X3 -> out:Y3 ] ]", "ld X0; coil out:Y0; and X1; mps; and X2; coil out:Y2; mpp; and X3; coil out:Y3; end", 1, 1},
	{"X0 -> [ X1 -> [ -> out:Y1 | or( X2 X3 ) -> out:Y2 ] | -> out:Y3 [ not( X4 ) -> [ -> out:Y4 | X5 -> out:Y5 ] ] ]", "ld X0; mps; and X1; mps; coil out:Y1; mpp; ld X2; or X3; anb; coil out:Y2; mpp; coil out:Y3; ld X4; inv; anb; mps; coil out:Y4; mpp; and X5; coil out:Y5; end", 2, 2},
	{"X0 -> [ -> out:Y1 [ X1 -> out:Y2 ] | -> out:Y3 ]", "ld X0; mps; coil out:Y1; and X1; coil out:Y2; mpp; coil out:Y3; end", 1, 1},
	{"X0 -> [ -> [ -> [ -> out:Y1 | -> out:Y2 ] | -> [ -> out:Y3 | -> out:Y4 ] ] | -> out:Y5 ]", "ld X0; mps; mps; mps; coil out:Y1; mpp; coil out:Y2; mpp; mps; coil out:Y3; mpp; coil out:Y4; mpp; coil out:Y5; end", 1, 3},
}

// Promises 15 and 16, of arms, told one by one.
func TestPromise15And16Arms(t *testing.T) {
	for _, c := range wayArms {
		wantDown(t, ladder(c.rung), c.list, c.bits, c.forks)
	}
	for _, c := range append(armCases, netCases...) {
		for _, rung := range []string{rungOf(c.from), "X9 -> [ -> out:Y9 | " + rungOf(c.from) + " ]", "X9 -> out:Y9 [ " + rungOf(c.from) + " ]", "not( X9 ) -> [ " + rungOf(c.from) + " | " + rungOf(c.to) + " ]"} {
			wantWay(t, ladder(rung))
			wantCurrent(t, ladder(rung), 4)
		}
	}
}

// Promises 15, 16 and 17, of all trees of few arms, with each kind of net, with coils and without.
func TestPromise15And16And17SmallArms(t *testing.T) {
	nets := []impl.Net{{}, netOf("X0"), netOf("and( X0 X0 )"), netOf("or( X0 X0 )"), netOf("not( X0 )"), netOf("and( or( X0 X0 ) X0 )")}
	for arms, use := range map[int][]impl.Net{1: nets, 2: nets, 3: nets, 4: nets[:2], 5: nets[:1]} {
		for _, rung := range rightArms(arms, use) {
			if rung.Net.Kind == 0 {
				rung.Net = netOf("X0")
			}
			rungs := numbered([]impl.Arm{rung})
			wantWay(t, rungs)
			wantCurrent(t, rungs, 2)
		}
	}
}

// Promises 15, 16 and 17, of ladders of all sorts.
func TestPromise15And16And17Some(t *testing.T) {
	someLadders(t, func(rungs []impl.Arm) {
		wantWay(t, rungs)
		wantCurrent(t, rungs, 2)
	})
}

// Promise 15: WayDown of ladders of all sorts gives lists that are verified, and that are written and read again.
func TestPromise15(t *testing.T) {
	given := 0
	someLadders(t, func(rungs []impl.Arm) {
		wantPromise15(t, rungs)
		list, code := impl.WayDown(rungs)
		again, fault := impl.ListParse(impl.ListText(list))
		if code != 0 || fault.Code != 0 || !impl.ListSame(again, list) || len(rungs) > 0 && len(list) < 3 {
			t.Errorf("WayDown of %.500s: %d, %.500s, read again: %v", shown(rungs), code, impl.ListText(list), fault)
		}
		given++
	})
	if given < 1000 {
		t.Errorf("only %d lists", given)
	}
}

// Promise 16: the last kid has no fork, be it deeper or less deep than those ahead of it.
func TestPromise16LastKid(t *testing.T) {
	kid := func(forks int) impl.Arm {
		arm := deepArm(forks)
		arm.Net = netOf("X1")
		return arm
	}
	for kids := 2; kids <= 4; kids++ {
		tuples([]int{0, 1, 2, 3}, kids, func(deep []int) {
			rung := impl.Arm{Net: netOf("X0")}
			want := deep[kids-1]
			for at, forks := range deep {
				rung.Kids = append(rung.Kids, kid(forks))
				if at < kids-1 {
					want = max(want, forks+1)
				}
			}
			if got := impl.WayForks([]impl.Arm{rung}); got != want {
				t.Errorf("kids of %v forks need %d, not %d", deep, got, want)
			}
			wantWay(t, []impl.Arm{rung})
		})
	}
	for arms := 1; arms <= 40; arms++ {
		rungs := []impl.Arm{sideArm(arms)}
		if got := impl.WayForks(rungs); got != 1 {
			t.Errorf("%d arms, each the last kid of another, need %d forks", arms, got)
		}
		wantWay(t, rungs)
	}
}

// wantNeeds is of a ladder that is accepted and needs so much.
func wantNeeds(t *testing.T, rungs []impl.Arm, bits, forks int) {
	t.Helper()
	if code := impl.TreeCheck(rungs).Code; code != 0 {
		t.Fatalf("code %d: %.500s", code, shown(rungs))
	}
	wantAnswers(t, rungs, impl.WayPlain(rungs), bits, forks)
	wantWay(t, rungs)
	wantCurrent(t, rungs, 2)
}

// Promise 16, near both bounds: each is met, passed alone, and passed with the other, in one rung or in two.
func TestPromise16Bounds(t *testing.T) {
	plain := ladder("X0 -> out:Y0")[0]
	for _, deep := range deepNets {
		for bits := 2; bits <= 19; bits++ {
			begun := coiled(deep(bits))
			wantNeeds(t, []impl.Arm{begun}, bits, 0)
			wantNeeds(t, []impl.Arm{plain, begun, plain}, bits, 0)
			wantNeeds(t, []impl.Arm{{Net: plain.Net, Coils: plain.Coils, Kids: []impl.Arm{coiled(net(impl.NetNot, deep(bits)))}}}, bits+1, 0)
			wantNeeds(t, []impl.Arm{{Net: plain.Net, Kids: []impl.Arm{plain, coiled(net(impl.NetNot, deep(bits)))}}}, bits+1, 1)
		}
	}
	for forks := range 12 {
		wantNeeds(t, []impl.Arm{deepArm(forks)}, 1, forks)
		wantNeeds(t, []impl.Arm{plain, plain, deepArm(forks)}, 1, forks)
	}
	for _, bits := range []int{15, 16, 17} {
		for _, forks := range []int{7, 8, 9} {
			n, arm := deepNets["blocks"](bits), deepArm(forks)
			wantNeeds(t, []impl.Arm{coiled(n), arm}, bits, forks)
			wantNeeds(t, []impl.Arm{arm, plain, coiled(n)}, bits, forks)
			arm.Net = n
			wantNeeds(t, []impl.Arm{arm}, bits, forks)
			wantNeeds(t, []impl.Arm{plain, arm, plain}, bits, forks)
		}
	}
}

// Promise 16: the codes at the bounds, one by one.
func TestPromise16Deep(t *testing.T) {
	for _, c := range []struct{ bits, forks, code int }{
		{16, 8, 0}, {17, 8, impl.WayDeep}, {16, 9, impl.WayDeep}, {17, 9, impl.WayDeep}, {17, 0, impl.WayDeep}, {2, 9, impl.WayDeep}, {16, 0, 0}, {2, 8, 0},
	} {
		rungs := []impl.Arm{deepArm(c.forks), coiled(deepNets["nots"](c.bits))}
		list, code := impl.WayDown(rungs)
		if code != c.code || (len(list) == 0) != (code != 0) || len(impl.WayPlain(rungs)) == 0 {
			t.Errorf("%d bits and %d forks: code %d, %d instructions", c.bits, c.forks, code, len(list))
		}
	}
}

// Promise 16, far beyond the bounds, up to the greatest size.
func TestPromise16FarBeyond(t *testing.T) {
	wantNeeds(t, []impl.Arm{coiled(deepNets["blocks"](198))}, 198, 0)
	wantNeeds(t, []impl.Arm{coiled(deepNets["nots"](133))}, 133, 0)
	wantNeeds(t, []impl.Arm{coiled(deepNets["turned blocks, with kids behind"](99))}, 99, 0)
	wantNeeds(t, []impl.Arm{coiled(deepNets["blocks as first kids of others"](99))}, 99, 0)
	wantNeeds(t, []impl.Arm{deepArm(132)}, 1, 132)
	wantNeeds(t, []impl.Arm{sideArm(132)}, 1, 1)
	both := deepArm(65)
	both.Net = deepNets["blocks"](100)
	wantNeeds(t, []impl.Arm{both}, 100, 65)
	wantNeeds(t, []impl.Arm{coiled(deepNets["blocks"](90)), deepArm(60)}, 90, 60)
	for name, over := range map[string][]impl.Arm{"bits": {coiled(deepNets["blocks"](199))}, "forks": {deepArm(133)}} {
		if code := impl.TreeCheck(over).Code; code != impl.TreeMany {
			t.Errorf("%s: code %d", name, code)
		}
		wantWay(t, over)
	}
}

// Ladders without rungs, with one, and with as many as may be, up to the greatest size, and one more.
func TestPromise15And16And17Limits(t *testing.T) {
	for _, none := range [][]impl.Arm{nil, {}, make([]impl.Arm, 0, 3)} {
		wantDown(t, none, "", 0, 0)
	}
	for _, fill := range fills {
		for _, c := range []struct{ rungs, size int }{{1, 3}, {1, 399}, {1, 400}, {1, 401}, {2, 400}, {39, 400}, {40, 120}, {40, 399}, {40, 400}, {40, 401}, {41, 123}, {41, 400}, {1, 3000}} {
			rungs := ladderOf(c.rungs, c.size, fill)
			wantWay(t, rungs)
			slices.Reverse(rungs)
			wantWay(t, rungs)
			if got := len(impl.WayPlain(rungs)); (got == 0) != (c.rungs > 40 || c.size > 400) {
				t.Errorf("%d rungs of %d parts have %d instructions", c.rungs, c.size, got)
			}
		}
	}
	for name, shape := range netShapes {
		for _, nets := range []int{2, 397, 398, 399} {
			wantWay(t, []impl.Arm{coiled(shape(nets))})
			if got := len(impl.WayPlain([]impl.Arm{coiled(shape(nets))})); (got == 0) != (nets > 398) {
				t.Errorf("%s: %d nets have %d instructions", name, nets, got)
			}
		}
	}
}

// The list of no ladder is too long: such as have the most instructions for their parts.
func TestPromise15Longest(t *testing.T) {
	turned := netOf("and( X0 )")
	for range 198 {
		turned.Kids = append(turned.Kids, netOf("not( X1 )"))
	}
	rungs := []impl.Arm{coiled(turned)}
	wantNeeds(t, rungs, 2, 0)
	if got := len(impl.WayPlain(rungs)); got != 1+3*198+2 {
		t.Errorf("%d instructions", got)
	}
	var many []impl.Arm
	for range 40 {
		many = append(many, ladder("not( X0 ) -> [ not( X1 ) -> out:Y0 | -> out:Y1 ]")...)
	}
	wantNeeds(t, many, 2, 1)
	if got := len(impl.WayPlain(many)); got != 40*10 {
		t.Errorf("%d instructions", got)
	}
}

// Ladders that are not accepted, by each fault, in each rung, and all small arms, right or wrong.
func TestWayOfWhatIsNotAccepted(t *testing.T) {
	right := ladder(example)[0]
	x, out := elem("X0"), elem("out:Y0")
	for code, wrongs := range map[int][]impl.Arm{
		impl.TreeBadNet: {
			{Net: net(impl.NetAnd), Coils: right.Coils}, {Net: net(impl.NetOr), Coils: right.Coils}, {Net: net(impl.NetNot), Coils: right.Coils}, {Net: net(impl.NetNot, contact(x), contact(x)), Coils: right.Coils},
			{Net: net(impl.NetAnd, impl.Net{}), Coils: right.Coils}, {Net: net(5, contact(x)), Coils: right.Coils}, {Net: net(math.MinInt, contact(x)), Coils: right.Coils}, {Net: net(0, contact(x)), Coils: right.Coils},
			{Net: impl.Net{Kind: impl.NetContact, One: x, Kids: []impl.Net{contact(x)}}, Coils: right.Coils}, {Net: impl.Net{Kind: impl.NetOr, One: x, Kids: []impl.Net{contact(x)}}, Coils: right.Coils},
			{Net: contact(x), Kids: []impl.Arm{right, {Net: net(impl.NetNot), Coils: right.Coils}}},
		},
		impl.TreeBadElem: {{Net: contact(x), Coils: []impl.Elem{x}}, {Net: contact(out), Coils: right.Coils}, {Net: contact(impl.Elem{}), Coils: right.Coils}, {Net: contact(x), Coils: []impl.Elem{out, {}}}, {Net: contact(x), Kids: []impl.Arm{{Coils: []impl.Elem{x}}}}},
		impl.TreeNoNet:   {{Coils: []impl.Elem{out}}, {Kids: []impl.Arm{right}}, {}},
		impl.TreeNoCoil:  {{Net: contact(x)}, {Net: contact(x), Kids: []impl.Arm{{}}}, {Net: contact(x), Coils: right.Coils, Kids: []impl.Arm{right, {Net: contact(x)}}}},
		impl.TreeMany:    {{Net: contact(x), Coils: slices.Repeat([]impl.Elem{out}, 400)}, coiled(net(impl.NetAnd, slices.Repeat([]impl.Net{contact(x)}, 398)...)), {Net: contact(x), Kids: slices.Repeat([]impl.Arm{right}, 20)}},
	} {
		for _, wrong := range wrongs {
			for _, rungs := range [][]impl.Arm{{wrong}, {wrong, right}, {right, wrong}, {right, wrong, right}} {
				if got := impl.TreeCheck(rungs).Code; got != code {
					t.Fatalf("the code is %d, not %d", got, code)
				}
				wantNoWay(t, rungs)
			}
		}
	}
	wantNoWay(t, slices.Repeat(ladder("X0 -> out:Y0"), 41))
	wantNoWay(t, append(ladderOf(39, 399, fills["coils"]), impl.Arm{}))
	_, all := smallArms()
	for i, arm := range all {
		wantWay(t, []impl.Arm{arm})
		if i%5 == 0 {
			wantWay(t, []impl.Arm{right, {Net: right.Net, Kids: []impl.Arm{arm}}})
		}
	}
}

// What is far too large, or holds itself, has no list.
func TestWayOfWhatIsFarTooLarge(t *testing.T) {
	nets := []impl.Net{netOf("not( X0 )")}
	nets[0].Kids = nets
	arms := ladder("X0 -> out:Y0")
	arms[0].Kids = arms
	for _, rungs := range append(deepLadders(200000), arms, []impl.Arm{coiled(nets[0])}, slices.Repeat(ladder("X0 -> out:Y0"), 5000)) {
		wantNoWay(t, rungs)
	}
}

// Ladders made by dice, many of them wrong somewhere, and such as are changed in one part.
func TestPromise15And16And17Made(t *testing.T) {
	for _, bad := range []int{0, 3, 30} {
		m := newMaker(uint64(bad)+101, bad)
		for range 150 {
			wantWay(t, m.ladder(pick(&m.dice, []int{0, 1, 1, 2, 3, 8, 41})))
		}
	}
	for _, rungs := range oneOff(ladder(example, "not( X0 ) -> out:Y0 [ X1 -> [ X2 -> out:Y1 | -> out:Y2 ] ]")) {
		wantWay(t, rungs)
	}
}

// Promise 17: all ladders that are a step away from a normal form, or two, go down to its list.
func TestPromise17StepsAway(t *testing.T) {
	d := &dice{16}
	for _, c := range append(netCases, armCases...) {
		norm := ladder(rungOf(c.to), "X9 -> out:Y9")
		list, bits, forks := impl.WayPlain(norm), impl.WayBits(norm), impl.WayForks(norm)
		wantAnswers(t, ladder(rungOf(c.from), "X9 -> out:Y9"), list, bits, forks)
		for _, back := range backLadders(norm) {
			wantAnswers(t, back, list, bits, forks)
			wantAnswers(t, pick(d, backLadders(back)), list, bits, forks)
		}
	}
}

// Promise 17, of ladders that need more if they are not brought into normal form first.
func TestPromise17NotNormal(t *testing.T) {
	within := netOf("X0")
	for range 150 {
		within = net(impl.NetAnd, netOf("X1"), within)
	}
	wantNeeds(t, []impl.Arm{coiled(within)}, 1, 0)
	chain := coiled(netOf("X0"))
	for range 100 {
		chain = impl.Arm{Net: netOf("X1"), Kids: []impl.Arm{chain}}
	}
	wantNeeds(t, []impl.Arm{chain}, 1, 0)
	lone := coiled(netOf("X0"))
	for i := range 300 {
		lone.Net = net(impl.NetAnd+i%2, lone.Net)
	}
	wantDown(t, []impl.Arm{lone}, "ld X0; coil out:Y0; end", 1, 0)
	wantDown(t, ladder("X0 -> [ and( X1 or( X2 X3 ) ) -> out:Y0 ]"), "ld X0; and X1; ld X2; or X3; anb; coil out:Y0; end", 2, 0)
	wantDown(t, ladder("X0 -> [ -> out:Y0 [ -> [ X1 -> out:Y1 ] ] ]"), "ld X0; coil out:Y0; and X1; coil out:Y1; end", 1, 0)
	wantDown(t, ladder("or( or( X0 X1 ) or( X2 X3 ) ) -> out:Y0"), "ld X0; or X1; or X2; or X3; coil out:Y0; end", 1, 0)
}

// Promise 17: rungs one behind the other, in their order.
func TestPromise17Rungs(t *testing.T) {
	var rungs []impl.Arm
	want := ""
	for i := range 40 {
		rungs = append(rungs, ladder(fmt.Sprintf("X%d -> set:M%d", i%32, i))...)
		want += fmt.Sprintf("; ld X%d; coil set:M%d; end", i%32, i)
		wantDown(t, rungs, want[2:], 1, 0)
	}
	m := newMaker(120, 0)
	for range 30 {
		var parts [][]impl.Inst
		var all []impl.Arm
		for range 6 {
			rungs := m.ladder(2)
			if slowCheck(append(slices.Clone(all), rungs...)).Code == 0 {
				all = append(all, rungs...)
				parts = append(parts, impl.WayPlain(rungs))
			}
		}
		if got, want := impl.WayPlain(all), slices.Concat(parts...); shownList(got) != shownList(want) {
			t.Errorf("%.500s goes down to %.500s, but its parts to %.500s", shown(all), shownList(got), shownList(want))
		}
		wantWay(t, all)
	}
}

// allAnswers is what the four functions answer, in full.
func allAnswers(rungs []impl.Arm) string {
	down, code := impl.WayDown(rungs)
	return fmt.Sprint(impl.WayPlain(rungs), down, code, impl.WayBits(rungs), impl.WayForks(rungs))
}

// manyLadders are of one rung and of many, too deep, and not accepted.
func manyLadders() [][]impl.Arm {
	m := newMaker(130, 0)
	out := [][]impl.Arm{nil, ladder(example), ladderOf(40, 400, fills["kids with nets"]), ladderOf(40, 400, fills["coils"]), {deepArm(9)}, {coiled(deepNets["blocks"](17))}, {deepArm(132)}, make([]impl.Arm, 1), slices.Repeat(ladder(example), 16)}
	for range 10 {
		out = append(out, m.ladder(3))
	}
	return out
}

// The same answer at each of many calls, whatever was asked ahead of them.
func TestWayAgain(t *testing.T) {
	all := manyLadders()
	var first []string
	for _, rungs := range all {
		first = append(first, allAnswers(rungs))
	}
	for round := range 30 {
		for i := range all {
			at := (i*7 + round) % len(all)
			if got := allAnswers(all[at]); got != first[at] {
				t.Fatalf("ladder %d, round %d: %.500s, not %.500s", at, round, got, first[at])
			}
		}
	}
}

// The same answer at many calls at once, of one ladder and of several.
func TestWayAtOnce(t *testing.T) {
	all := manyLadders()
	var first []string
	for _, rungs := range all {
		first = append(first, allAnswers(rungs))
	}
	var calls sync.WaitGroup
	for call := range 16 {
		calls.Go(func() {
			for round := range 10 * len(all) {
				at := (call + round) % len(all)
				if call%2 == 0 {
					at = round / 10
				}
				if got := allAnswers(all[at]); got != first[at] {
					t.Errorf("ladder %d, call %d: %.500s, not %.500s", at, call, got, first[at])
					return
				}
			}
		})
	}
	calls.Wait()
}

// No goroutine is left behind by a call.
func TestWayLeavesNoGoroutine(t *testing.T) {
	all := manyLadders()
	before := runtime.NumGoroutine()
	for range 20 {
		for _, rungs := range all {
			allAnswers(rungs)
		}
	}
	for range 100000 {
		if runtime.NumGoroutine() <= before {
			return
		}
		runtime.Gosched()
	}
	t.Errorf("%d goroutines, of %d", runtime.NumGoroutine(), before)
}

// wantOwnLists calls all functions with a ladder: each answer is in memory of its own, and spoiling it changes no other.
func wantOwnLists(t *testing.T, rungs []impl.Arm, want string) {
	t.Helper()
	plain := impl.WayPlain(rungs)
	down, _ := impl.WayDown(rungs)
	wantApart(t, rungs, plain)
	wantApart(t, rungs, down)
	wantApart(t, plain, down)
	wantApart(t, down, impl.WayPlain(rungs))
	spoil(reflect.ValueOf(plain))
	spoil(reflect.ValueOf(down))
	if got := allAnswers(rungs); got != want {
		t.Errorf("%.500s, not %.500s", got, want)
	}
}

// The ladders that are handed in stay as they were, what stands behind the ends of their lists too; each answer is new memory, and no two lists of operands share any.
func TestWayMemory(t *testing.T) {
	look := func(rungs []impl.Arm) {
		want := allAnswers(rungs)
		given := copied(rungs)
		before := whole(given)
		wantOwnLists(t, given, want)
		if whole(given) != before {
			t.Errorf("a ladder was written into: %.500s", shown(rungs))
		}
		crowd := newCrowd(rungs)
		given = crowd.ladder(rungs)
		before = crowd.text()
		wantOwnLists(t, given, want)
		if crowd.text() != before {
			t.Errorf("a ladder was written into, or behind its ends: %.500s", shown(rungs))
		}
		given = alike(rungs)
		before = shown(given)
		wantOwnLists(t, given, want)
		if shown(given) != before {
			t.Errorf("a ladder was written into: %.500s", shown(rungs))
		}
	}
	for _, rungs := range manyLadders() {
		look(rungs)
	}
	i := 0
	someLadders(t, func(rungs []impl.Arm) {
		if i++; i%11 == 0 || len(rungs) > 1 {
			look(rungs)
		}
	})
}

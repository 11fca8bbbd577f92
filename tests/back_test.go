package tests

import (
	"fmt"
	"reflect"
	"slices"
	"strings"
	"sync"
	"testing"

	"loop.example/stilway/impl"
)

func TestBackConstants(t *testing.T) {
	if impl.BackBad != 1 || impl.BackMany != 2 {
		t.Errorf("codes %d and %d", impl.BackBad, impl.BackMany)
	}
}

// wantBack is of a list that has this ladder, or none by this code.
func wantBack(t *testing.T, list []impl.Inst, rungs []impl.Arm, code int) {
	t.Helper()
	if up, got := impl.BackUp(list); shown(up) != shown(rungs) || got != code {
		t.Errorf("BackUp of %.500s = %.500s and %d, not %.500s and %d", impl.ListText(list), shown(up), got, shown(rungs), code)
	}
}

// wantPromise18 is of any ladder: its list, if it has one, comes up as its normal form, and that goes down to the very list.
func wantPromise18(t *testing.T, rungs []impl.Arm) {
	t.Helper()
	list, code := impl.WayDown(rungs)
	if code != 0 {
		return
	}
	norm, _ := slowNorm(rungs, &dice{18})
	wantBack(t, list, norm, 0)
	up, _ := impl.BackUp(list)
	if !impl.TreeSame(up, impl.NormMake(rungs)) {
		t.Errorf("%.500s comes up as %.500s, which is not its normal form", shown(rungs), shown(up))
	}
	if again, code := impl.WayDown(up); code != 0 || shownList(again) != shownList(list) {
		t.Errorf("%.500s came down from a ladder, and comes down once more as %.500s, code %d", impl.ListText(list), impl.ListText(again), code)
	}
}

// wantPromise19 is of any list.
func wantPromise19(t *testing.T, list []impl.Inst) {
	t.Helper()
	want := 0
	if slowSure(list) != (impl.SureFault{}) {
		want = 1
	} else if rungs := slowLadder(list); len(rungs) > 40 || slowSize(rungs) > 400 {
		want = 2
	}
	up, code := impl.BackUp(list)
	if code != want || code != 0 && len(up) != 0 {
		t.Errorf("BackUp of %.500s: code %d, not %d, and %d rungs", shownList(list), code, want, len(up))
	}
	if fault, wrong := slowCheck(up), wrongByPromise8(up); fault.Code != 0 || wrong != "" || !impl.NormIs(up) {
		t.Errorf("BackUp of %.500s is not in normal form: %v, %s", impl.ListText(list), fault, wrong)
	}
}

// wantPromise20 is of any list.
func wantPromise20(t *testing.T, list []impl.Inst) {
	t.Helper()
	up, code := impl.BackUp(list)
	if code != 0 {
		return
	}
	again, down := impl.WayDown(up)
	was, is := impl.SurePeak(list), impl.SurePeak(again)
	if down != 0 || len(again) > len(list) || is.Bits > was.Bits || is.Forks > was.Forks {
		t.Errorf("%.500s (%v) comes up and goes down to %.500s (%v), code %d", impl.ListText(list), was, impl.ListText(again), is, down)
	}
	wantBack(t, again, up, 0)
}

// wantUp holds what is said of any list against the second telling, and the promises against their own words; what comes up gives each coil what the list does.
func wantUp(t *testing.T, list []impl.Inst) {
	t.Helper()
	up, code := slowUp(list)
	wantBack(t, list, up, code)
	wantPromise19(t, list)
	wantPromise20(t, list)
	if code != 0 {
		return
	}
	for number := range 2 {
		on := chance(number)
		if got, want := gets(up, true, on), runs(list, on); !slices.Equal(got, want) {
			t.Errorf("%.500s gives its coils %.500s, what comes up %.500s", impl.ListText(list), fmt.Sprint(want), fmt.Sprint(got))
		}
	}
}

// wantLadder holds a list in writing against its ladder.
func wantLadder(t *testing.T, list string, rungs ...string) {
	t.Helper()
	wantBack(t, lines(list), ladder(rungs...), 0)
	wantUp(t, lines(list))
}

// wantNetOf is of instructions that leave this net.
func wantNetOf(t *testing.T, list []impl.Inst, n impl.Net) {
	t.Helper()
	if got, ok := impl.BackNet(list); !ok || shownNet(got) != shownNet(n) {
		t.Errorf("BackNet of %.500s = %.500s and %v, not %.500s", shownList(list), shownNet(got), ok, shownNet(n))
	}
}

// wantNoNet is of instructions that leave none.
func wantNoNet(t *testing.T, list []impl.Inst) {
	t.Helper()
	if got, ok := impl.BackNet(list); ok || !isNone(got) {
		t.Errorf("BackNet of %.500s = %.500s and %v", shownList(list), shownNet(got), ok)
	}
}

// wantNet holds BackNet against the second telling, and says whether there is a net.
func wantNet(t *testing.T, list []impl.Inst) bool {
	t.Helper()
	n, ok := slowBackNet(list)
	if ok {
		wantNetOf(t, list, n)
	} else {
		wantNoNet(t, list)
	}
	return ok
}

// wantPromise21 is of a net in normal form.
func wantPromise21(t *testing.T, n impl.Net) {
	t.Helper()
	wantNetOf(t, slowBegin(n), n)
	plain := impl.WayPlain([]impl.Arm{coiled(n)})
	if len(plain) == 0 {
		return
	}
	wantNetOf(t, plain[:len(plain)-2], n)
	wantNet(t, plain[:len(plain)-2])
}

// The document's example comes up as it went down.
func TestPromise18And20Example(t *testing.T) {
	const list = "ld X0; and X1; ld X2; ld X3; or X4; inv; anb; orb; coil out:Y0; mps; and X5; coil out:Y1; mrd; ld X6; or X7; anb; coil out:Y2; and X8; coil set:M1; mpp; coil reset:M1; end"
	wantLadder(t, list, example)
	wantPromise18(t, ladder(example))
	wantNetOf(t, lines(list)[:8], netOf("or( and( X0 X1 ) and( X2 not( or( X3 X4 ) ) ) )"))
	wantPromise21(t, ladder(example)[0].Net)
}

// Promises 18 and 21, of each kind of net, and each within others, against what they begin with in writing.
func TestPromise18And21Nets(t *testing.T) {
	for _, c := range wayCases {
		wantLadder(t, c.list+"; coil out:Y0; end", c.net+" -> out:Y0")
		wantPromise18(t, ladder(c.net+" -> out:Y0"))
		wantNetOf(t, lines(c.list), netOf(c.net))
		wantPromise21(t, netOf(c.net))
	}
	for _, c := range netCases {
		wantPromise18(t, ladder(rungOf(c.from), rungOf(c.to)))
		wantPromise21(t, netOf(c.to))
	}
}

// Promise 21, of all small nets in normal form, and of the normal forms of nets made by dice.
func TestPromise21Small(t *testing.T) {
	count := 0
	for parts := 1; parts <= 8; parts++ {
		for _, n := range rightNets(parts) {
			if shownNet(impl.NormNet(n)) == shownNet(n) {
				count++
				wantPromise21(t, numbered([]impl.Arm{coiled(n)})[0].Net)
			}
		}
	}
	if count < 100 {
		t.Errorf("only %d nets", count)
	}
	m := newMaker(210, 0)
	for range 300 {
		if n := slowNormNet(m.net(6), &m.dice); !isNone(n) {
			wantPromise21(t, n)
		}
	}
}

// Promise 21, of nets that are more than 16 bits high, up to the greatest size.
func TestPromise21Deep(t *testing.T) {
	for _, deep := range deepNets {
		for _, bits := range []int{2, 15, 16, 17, 18, 40, 79} {
			wantPromise21(t, slowNormNet(deep(bits), &dice{uint64(bits)}))
		}
	}
	wantPromise21(t, slowNormNet(deepNets["blocks"](199), &dice{1}))
	wantPromise21(t, slowNormNet(deepNets["nots"](133), &dice{1}))
	for bits := range 30 {
		for _, words := range []string{"anb", "orb", "inv anb", "orb inv"} {
			wantNet(t, numberedList(slices.Concat(short("ld"), slices.Repeat(short("ld"), bits), slices.Repeat(short(words), bits))))
		}
	}
}

// Promise 21: a net of 400 nets, and one of 401.
func TestPromise21Limits(t *testing.T) {
	for _, shape := range []string{"wide", "nots"} {
		for _, nets := range []int{3, 398, 399, 400, 401, 402, 500} {
			n := netShapes[shape](nets)
			if nets <= 400 {
				wantPromise21(t, n)
			} else {
				wantNoNet(t, slowBegin(n))
			}
		}
	}
	for _, words := range []string{"and", "or", "ld anb", "ld orb"} {
		for _, kids := range []int{397, 398, 399, 400, 499} {
			list := slices.Concat(short("ld"), slices.Repeat(short(words), kids))
			if ok := wantNet(t, list); ok != (kids+2 <= 400) {
				t.Errorf("%d of %s: %v", kids, words, ok)
			}
		}
	}
	for _, invs := range []int{398, 399, 400, 999} {
		if ok := wantNet(t, slices.Concat(short("ld"), slices.Repeat(short("inv"), invs))); ok != (invs+1 <= 400) {
			t.Errorf("%d of inv: %v", invs, ok)
		}
	}
}

// BackNet of 1000 instructions, of 1001, and of far more: none of them is a net.
func TestBackNetMany(t *testing.T) {
	for _, long := range []int{999, 1000, 1001, 1002, 300000} {
		for _, words := range []string{"ld", "and", "or", "inv", "ld anb", "ld orb", "inv inv", "coil", "end", "what"} {
			wantNoNet(t, slices.Concat(short("ld"), slices.Repeat(short(words), long-1))[:long])
			wantNoNet(t, slices.Repeat(short(words), long)[:long])
		}
	}
	wantNet(t, short("ld 999*inv"))
	wantNet(t, short("ld 1000*inv"))
	wantNet(t, short("500*ld 499*orb"))
}

// Each of the six on a stack of each height, also more than 16 bits high, and what is left put together.
func TestBackNetHeights(t *testing.T) {
	for high := range 25 {
		var ahead, below []string
		for i := range high {
			ahead, below = append(ahead, fmt.Sprint("ld X", i)), append(below, fmt.Sprint("X", i))
		}
		for line, needs := range map[string]int{"ld X31": 0, "and X31": 1, "or X31": 1, "inv": 1, "anb": 2, "orb": 2} {
			list := listOf(append(slices.Clone(ahead), line)...)
			if high < needs {
				wantNoNet(t, list)
				wantNoNet(t, slices.Concat(list, short("ld")))
				wantNoNet(t, slices.Concat(list, short("ld orb")))
				continue
			}
			parts := slices.Clone(below[:high-needs])
			switch top := strings.Join(below[high-needs:], " "); line {
			case "ld X31":
				parts = append(parts, "X31")
			case "and X31":
				parts = append(parts, "and( "+top+" X31 )")
			case "or X31":
				parts = append(parts, top+" X31")
			case "inv":
				parts = append(parts, "not( "+top+" )")
			case "anb":
				parts = append(parts, "and( "+top+" )")
			case "orb":
				parts = append(parts, top)
			}
			text := strings.Join(parts, " ")
			if len(parts) > 1 || line == "or X31" || line == "orb" {
				text = "or( " + text + " )"
			}
			wantNetOf(t, slices.Concat(list, slices.Repeat(short("orb"), len(parts)-1)), netOf(text))
			wantNoNet(t, slices.Concat(list, slices.Repeat(short("orb"), len(parts))))
			if len(parts) > 1 {
				wantNoNet(t, list)
				wantNoNet(t, slices.Concat(list, slices.Repeat(short("orb"), len(parts)-2)))
			}
		}
	}
}

// Promise 19, of each of the six on a stack of each height, in a rung, behind a coil and behind an mps, up to one bit too many.
func TestPromise19Heights(t *testing.T) {
	found := map[int]int{}
	for _, word := range netWords {
		for high := range 18 {
			for _, begin := range []string{"", "ld coil", "ld coil coil and", "ld mps", "ld mps coil mrd", "ld mps coil mpp coil", "ld mps mps coil mpp"} {
				ahead := short(begin)
				for heights(ahead).Bits < high {
					ahead = append(ahead, short("ld")...)
				}
				list := append(ahead, short(word)...)
				if heights(list).Bits > 0 {
					list = append(list, closing(list)...)
				}
				list = numberedList(list)
				wantUp(t, list)
				_, code := impl.BackUp(list)
				found[code]++
			}
		}
	}
	if found[0] < 400 || found[1] < 100 {
		t.Errorf("codes %v", found)
	}
}

// opened is a net in writing, without its own block if that is of this kind.
func opened(text, block string) string {
	if !strings.HasPrefix(text, block) {
		return text
	}
	return strings.TrimSuffix(strings.TrimPrefix(text, block), " )")
}

// netPieces are nets in writing, each with instructions that leave it.
var netPieces = []struct{ list, net string }{
	{"ld X0", "X0"},
	{"ld X0; and X1", "and( X0 X1 )"},
	{"ld X0; or X1", "or( X0 X1 )"},
	{"ld X0; inv", "not( X0 )"},
	{"ld X0; inv; inv", "not( not( X0 ) )"},
	{"ld X0; and X1; and X2", "and( X0 X1 X2 )"},
	{"ld X0; or X1; or X2; or X3", "or( X0 X1 X2 X3 )"},
	{"ld X0; or X1; and X2", "and( or( X0 X1 ) X2 )"},
	{"ld X0; and X1; or X2", "or( and( X0 X1 ) X2 )"},
	{"ld X0; ld X1; or X2; anb", "and( X0 or( X1 X2 ) )"},
	{"ld X0; ld X1; and X2; orb", "or( X0 and( X1 X2 ) )"},
	{"ld X0; and X1; inv", "not( and( X0 X1 ) )"},
	{"ld X0; or X1; inv", "not( or( X0 X1 ) )"},
}

// Two nets put together, of all kinds, both ways: in BackNet, in a rung, and in a kid, where the first that is there is none.
func TestPromise19Together(t *testing.T) {
	for _, first := range netPieces {
		for _, other := range netPieces {
			list, text := strings.ReplaceAll(other.list, "X", "M"), strings.ReplaceAll(other.net, "X", "M")
			for join, block := range map[string]string{"anb": "and( ", "orb": "or( "} {
				want := block + opened(first.net, block) + " " + opened(text, block) + " )"
				lists := []string{first.list + "; " + list + "; " + join}
				if text == "M0" {
					lists = append(lists, first.list+"; "+strings.TrimSuffix(block, "( ")+" M0")
				}
				for _, list := range lists {
					wantNetOf(t, lines(list), netOf(want))
					wantLadder(t, list+"; coil out:Y0; end", want+" -> out:Y0")
					wantLadder(t, "ld X9; coil out:Y9; "+list+"; anb; coil out:Y0; end", "X9 -> out:Y9 [ "+want+" -> out:Y0 ]")
				}
			}
			and := "and( " + opened(first.net, "and( ") + " " + opened(text, "and( ") + " )"
			wantLadder(t, "ld X9; mps; "+first.list+"; anb; "+list+"; anb; coil out:Y0; mpp; coil out:Y1; end", "X9 -> [ "+and+" -> out:Y0 | -> out:Y1 ]")
		}
	}
}

// The first net is none: in each kid, however it comes to be read, the second is there alone.
func TestPromise19FirstNone(t *testing.T) {
	for _, piece := range netPieces {
		taken := piece.list + "; anb"
		wantLadder(t, "ld X9; coil out:Y9; "+taken+"; coil out:Y0; end", "X9 -> out:Y9 [ "+piece.net+" -> out:Y0 ]")
		wantLadder(t, "ld X9; mps; "+taken+"; coil out:Y0; mrd; "+taken+"; coil out:Y1; mpp; "+taken+"; coil out:Y2; end", "X9 -> [ "+piece.net+" -> out:Y0 | "+piece.net+" -> out:Y1 | "+piece.net+" -> out:Y2 ]")
		wantLadder(t, "ld X9; mps; coil out:Y9; "+taken+"; coil out:Y0; mpp; and X8; coil out:Y8; "+taken+"; coil out:Y1; end", "X9 -> [ -> out:Y9 [ "+piece.net+" -> out:Y0 ] | X8 -> out:Y8 [ "+piece.net+" -> out:Y1 ] ]")
		and := "and( " + opened(piece.net, "and( ") + " X7 )"
		wantLadder(t, "ld X9; coil out:Y9; "+taken+"; and X7; coil out:Y0; end", "X9 -> out:Y9 [ "+and+" -> out:Y0 ]")
		and = "and( X7 " + opened(piece.net, "and( ") + " )"
		wantLadder(t, "ld X9; coil out:Y9; and X7; "+taken+"; coil out:Y0; end", "X9 -> out:Y9 [ "+and+" -> out:Y0 ]")
	}
	wantLadder(t, "ld X9; coil out:Y9; and X7; coil out:Y0; end", "X9 -> out:Y9 [ X7 -> out:Y0 ]")
	wantLadder(t, "ld X9; coil out:Y9; and X7; and X6; coil out:Y0; end", "X9 -> out:Y9 [ and( X7 X6 ) -> out:Y0 ]")
}

// inv of each kind of net, once and twice, at the top and within.
func TestPromise19Inv(t *testing.T) {
	for _, piece := range netPieces {
		for _, c := range []struct{ list, net string }{
			{piece.list + "; inv", "not( " + piece.net + " )"},
			{piece.list + "; inv; inv", "not( not( " + piece.net + " ) )"},
			{"ld X9; " + piece.list + "; inv; anb", "and( X9 not( " + piece.net + " ) )"},
			{"ld X9; " + piece.list + "; inv; inv; orb", "or( X9 not( not( " + piece.net + " ) ) )"},
			{piece.list + "; inv; and X9", "and( not( " + piece.net + " ) X9 )"},
			{piece.list + "; inv; or X9; inv", "not( or( not( " + piece.net + " ) X9 ) )"},
		} {
			wantNetOf(t, lines(c.list), netOf(c.net))
			wantLadder(t, c.list+"; coil out:Y0; end", c.net+" -> out:Y0")
			wantLadder(t, "ld M0; coil out:Y9; "+c.list+"; anb; coil out:Y0; end", "M0 -> out:Y9 [ "+c.net+" -> out:Y0 ]")
		}
	}
}

// Promises 18 and 20, of arms, told one by one.
func TestPromise18And20Arms(t *testing.T) {
	for _, c := range wayArms {
		wantLadder(t, c.list, c.rung)
		wantLadder(t, c.list+"; ld X9; coil out:Y9; end", c.rung, "X9 -> out:Y9")
		wantLadder(t, "ld X9; coil out:Y9; end; "+c.list+"; "+c.list, "X9 -> out:Y9", c.rung, c.rung)
		wantPromise18(t, ladder(c.rung))
	}
	for _, c := range []struct{ list, rung string }{
		// What stands behind the last mpp is the last kid's, with forks of its own or without.
		{"ld X0; mps; coil out:Y0; mpp; and X1; coil out:Y1; and X2; coil out:Y2; end", "X0 -> [ -> out:Y0 | X1 -> out:Y1 [ X2 -> out:Y2 ] ]"},
		{"ld X0; mps; coil out:Y0; mpp; coil out:Y1; mps; coil out:Y2; mpp; coil out:Y3; end", "X0 -> [ -> out:Y0 | -> out:Y1 [ -> out:Y2 | -> out:Y3 ] ]"},
		{"ld X0; mps; coil out:Y0; mpp; coil out:Y1; and X1; mps; coil out:Y2; mpp; coil out:Y3; and X2; coil out:Y4; end", "X0 -> [ -> out:Y0 | -> out:Y1 [ X1 -> [ -> out:Y2 | -> out:Y3 [ X2 -> out:Y4 ] ] ] ]"},
		{"ld X0; mps; mps; coil out:Y0; mpp; coil out:Y1; and X1; coil out:Y2; mpp; coil out:Y3; end", "X0 -> [ -> [ -> out:Y0 | -> out:Y1 [ X1 -> out:Y2 ] ] | -> out:Y3 ]"},
		{"ld X0; mps; mps; coil out:Y0; mpp; coil out:Y1; mrd; coil out:Y2; mpp; coil out:Y3; end", "X0 -> [ -> [ -> out:Y0 | -> out:Y1 ] | -> out:Y2 | -> out:Y3 ]"},
		{"ld X0; mps; mps; coil out:Y0; mrd; coil out:Y1; mpp; coil out:Y2; mrd; mps; coil out:Y3; mrd; coil out:Y4; mpp; coil out:Y5; mpp; coil out:Y6; end", "X0 -> [ -> [ -> out:Y0 | -> out:Y1 | -> out:Y2 ] | -> [ -> out:Y3 | -> out:Y4 | -> out:Y5 ] | -> out:Y6 ]"},
		// An arm that only goes on: to its kids, with a net ahead of them or without.
		{"ld X0; coil out:Y0; and X1; mps; coil out:Y1; mpp; and X2; coil out:Y2; end", "X0 -> out:Y0 [ X1 -> [ -> out:Y1 | X2 -> out:Y2 ] ]"},
		{"ld X0; mps; mps; mps; coil out:Y0; mpp; coil out:Y1; mpp; coil out:Y2; mpp; coil out:Y3; end", "X0 -> [ -> [ -> [ -> out:Y0 | -> out:Y1 ] | -> out:Y2 ] | -> out:Y3 ]"},
		{"ld X0; mps; coil out:Y0; mpp; mps; coil out:Y1; mpp; mps; coil out:Y2; mpp; coil out:Y3; end", "X0 -> [ -> out:Y0 | -> [ -> out:Y1 | -> [ -> out:Y2 | -> out:Y3 ] ] ]"},
		// Kids that have nothing but their coils, one and several.
		{"ld X0; mps; coil out:Y0; coil out:Y1; mrd; coil out:Y2; mpp; coil out:Y3; coil out:Y4; coil out:Y5; end", "X0 -> [ -> out:Y0 out:Y1 | -> out:Y2 | -> out:Y3 out:Y4 out:Y5 ]"},
		{"ld X0; coil out:Y0; coil out:Y1; mps; coil out:Y2; mpp; coil out:Y3; end", "X0 -> out:Y0 out:Y1 [ -> out:Y2 | -> out:Y3 ]"},
		// A kid that begins right there, of an arm with a net and of one without.
		{"ld X0; coil out:Y0; coil out:Y1; and X1; coil out:Y2; coil out:Y3; end", "X0 -> out:Y0 out:Y1 [ X1 -> out:Y2 out:Y3 ]"},
		{"ld X0; mps; coil out:Y0; and X1; coil out:Y1; mrd; and X2; coil out:Y2; and X3; coil out:Y3; mpp; coil out:Y4; and X4; coil out:Y5; end", "X0 -> [ -> out:Y0 [ X1 -> out:Y1 ] | X2 -> out:Y2 [ X3 -> out:Y3 ] | -> out:Y4 [ X4 -> out:Y5 ] ]"},
	} {
		wantLadder(t, c.list, c.rung)
		wantPromise18(t, ladder(c.rung))
	}
}

// Promises 19 and 20, of lists that did not come down from a ladder: what is opened makes them shorter, or less high, or only other.
func TestPromise19And20Opened(t *testing.T) {
	for _, c := range []struct {
		list, rung, down string
		bits             int
	}{
		{"ld X0; ld X1; anb; coil out:Y0; end", "and( X0 X1 ) -> out:Y0", "ld X0; and X1; coil out:Y0; end", 1},
		{"ld X0; ld X1; orb; coil out:Y0; end", "or( X0 X1 ) -> out:Y0", "ld X0; or X1; coil out:Y0; end", 1},
		{"ld X0; ld X1; ld X2; anb; anb; coil out:Y0; end", "and( X0 X1 X2 ) -> out:Y0", "ld X0; and X1; and X2; coil out:Y0; end", 1},
		{"ld X0; ld X1; and X2; anb; coil out:Y0; end", "and( X0 X1 X2 ) -> out:Y0", "ld X0; and X1; and X2; coil out:Y0; end", 1},
		{"ld X0; or X1; ld X2; or X3; orb; or X4; coil out:Y0; end", "or( X0 X1 X2 X3 X4 ) -> out:Y0", "ld X0; or X1; or X2; or X3; or X4; coil out:Y0; end", 1},
		{"ld X0; ld X1; orb; ld X2; ld X3; orb; orb; inv; coil out:Y0; end", "not( or( X0 X1 X2 X3 ) ) -> out:Y0", "ld X0; or X1; or X2; or X3; inv; coil out:Y0; end", 1},
		{"ld X0; ld X1; or X2; ld X3; inv; anb; anb; coil out:Y0; end", "and( X0 or( X1 X2 ) not( X3 ) ) -> out:Y0", "ld X0; ld X1; or X2; anb; ld X3; inv; anb; coil out:Y0; end", 2},
		{"ld X0; coil out:Y0; ld X1; anb; coil out:Y1; end", "X0 -> out:Y0 [ X1 -> out:Y1 ]", "ld X0; coil out:Y0; and X1; coil out:Y1; end", 1},
		{"ld X0; coil out:Y0; ld X1; ld X2; anb; anb; coil out:Y1; end", "X0 -> out:Y0 [ and( X1 X2 ) -> out:Y1 ]", "ld X0; coil out:Y0; and X1; and X2; coil out:Y1; end", 1},
		{"ld X0; coil out:Y0; ld X1; or X2; and X3; anb; coil out:Y1; end", "X0 -> out:Y0 [ and( or( X1 X2 ) X3 ) -> out:Y1 ]", "ld X0; coil out:Y0; ld X1; or X2; anb; and X3; coil out:Y1; end", 2},
		{"ld X0; mps; ld X1; inv; ld X2; inv; anb; anb; coil out:Y0; mpp; coil out:Y1; end", "X0 -> [ and( not( X1 ) not( X2 ) ) -> out:Y0 | -> out:Y1 ]", "ld X0; mps; ld X1; inv; anb; ld X2; inv; anb; coil out:Y0; mpp; coil out:Y1; end", 2},
		{"ld X0; mps; ld X1; ld X2; ld X3; orb; anb; anb; coil out:Y0; mpp; ld X4; anb; coil out:Y1; end", "X0 -> [ and( X1 or( X2 X3 ) ) -> out:Y0 | X4 -> out:Y1 ]", "ld X0; mps; and X1; ld X2; or X3; anb; coil out:Y0; mpp; and X4; coil out:Y1; end", 2},
	} {
		wantLadder(t, c.list, c.rung)
		up, _ := impl.BackUp(lines(c.list))
		wantAnswers(t, up, lines(c.down), c.bits, strings.Count(c.list, "mps"))
	}
}

// Promises 18 and 20, of ladders of all sorts, in normal form and not.
func TestPromise18And20Some(t *testing.T) {
	count := 0
	someLadders(t, func(rungs []impl.Arm) {
		count++
		wantPromise18(t, rungs)
		list, _ := impl.WayDown(rungs)
		wantUp(t, list)
	})
	if count < 1000 {
		t.Errorf("only %d ladders", count)
	}
}

// Promises 18 and 20, of all trees of few arms.
func TestPromise18And20SmallArms(t *testing.T) {
	nets := []impl.Net{{}, netOf("X0"), netOf("and( X0 X0 )"), netOf("not( X0 )"), netOf("and( or( X0 X0 ) X0 )")}
	for arms, use := range map[int][]impl.Net{2: nets, 3: nets, 4: nets[:2], 5: nets[:1]} {
		for _, rung := range rightArms(arms, use) {
			if rung.Net.Kind == 0 {
				rung.Net = netOf("X0")
			}
			wantPromise18(t, numbered([]impl.Arm{rung}))
		}
	}
}

// Promise 18, near both bounds of the way down: what goes down comes up, also from the greatest heights.
func TestPromise18Bounds(t *testing.T) {
	for _, deep := range deepNets {
		for _, bits := range []int{2, 15, 16, 17} {
			wantPromise18(t, []impl.Arm{coiled(deep(bits)), ladder(example)[0]})
			wantPromise18(t, []impl.Arm{{Net: netOf("X0"), Coils: []impl.Elem{elem("out:Y1")}, Kids: []impl.Arm{coiled(net(impl.NetNot, deep(bits-1)))}}})
		}
	}
	for forks := range 10 {
		wantPromise18(t, []impl.Arm{deepArm(forks)})
		wantPromise18(t, []impl.Arm{deepArm(forks), sideArm(5 * forks), deepArm(8)})
		arm := deepArm(forks)
		arm.Net = deepNets["nots"](16)
		wantPromise18(t, []impl.Arm{arm})
	}
	for arms := range 130 {
		wantPromise18(t, []impl.Arm{sideArm(arms)})
	}
}

// Promises 18 and 20: ladders that are steps away from a normal form, and lists of them that did not come down.
func TestPromise18And20StepsAway(t *testing.T) {
	d := &dice{182}
	for _, c := range append(netCases, armCases...) {
		norm := ladder(rungOf(c.to), "X9 -> out:Y9")
		for _, rungs := range append(backLadders(norm), ladder(rungOf(c.from), "X9 -> out:Y9")) {
			wantPromise18(t, rungs)
			wantLoose(t, rungs, d)
		}
	}
}

// wantLoose takes a ladder down in ways of its own: what is verified comes up as the normal form, and goes down to the list of WayDown. It says whether there is a verified list that did not come down from a ladder.
func wantLoose(t *testing.T, rungs []impl.Arm, d *dice) bool {
	t.Helper()
	list := loosePlain(rungs, d)
	if slowSure(list) != (impl.SureFault{}) {
		wantBack(t, list, nil, impl.BackBad)
		return false
	}
	wantBack(t, list, impl.NormMake(rungs), 0)
	wantUp(t, list)
	plain, _ := impl.WayDown(rungs)
	up, _ := impl.BackUp(list)
	if again, code := impl.WayDown(up); code != 0 || shownList(again) != shownList(plain) {
		t.Errorf("%.500s goes down to %.500s, but by way of %.500s to %.500s", shown(rungs), impl.ListText(plain), impl.ListText(list), impl.ListText(again))
	}
	return shownList(list) != shownList(plain)
}

// Promises 19 and 20, of many lists that did not come down from a ladder, though one may be known.
func TestPromise19And20Loose(t *testing.T) {
	other := 0
	d := &dice{202}
	i := 0
	someLadders(t, func(rungs []impl.Arm) {
		if i++; i%3 == 0 && wantLoose(t, rungs, d) {
			other++
		}
	})
	if other < 300 {
		t.Errorf("only %d lists that did not come down", other)
	}
}

// Lists of no rung, of one, of as many as a ladder may have, and of more.
func TestPromise19Rungs(t *testing.T) {
	for _, none := range [][]impl.Inst{nil, {}, make([]impl.Inst, 0, 3)} {
		wantBack(t, none, nil, 0)
		wantUp(t, none)
		wantNoNet(t, none)
	}
	for _, words := range []string{"ld coil end", "ld or and coil end", "ld mps coil mpp coil end"} {
		for _, rungs := range []int{1, 2, 39, 40, 41, 42, 80, 160} {
			list := numberedList(slices.Repeat(short(words), rungs))
			wantUp(t, list)
			if up, code := impl.BackUp(list); code == 0 && (len(up) != rungs || rungs > 40) || code != 0 && (rungs <= 40 || code != impl.BackMany) {
				t.Errorf("%d rungs: %d, code %d", rungs, len(up), code)
			}
		}
	}
	wantBack(t, slices.Repeat(short("ld coil end"), 333), nil, impl.BackMany)
	wantBack(t, slices.Repeat(short("ld coil end"), 334), nil, impl.BackBad)
}

// Ladders of as many parts as may be, and of more, by lists of all shapes.
func TestPromise19And20Parts(t *testing.T) {
	for name, shape := range upShapes {
		for _, parts := range []int{350, 398, 399, 400, 401, 402, 403} {
			list := numberedList(shape(parts))
			if got := slowSize(slowLadder(list)); got != parts {
				t.Fatalf("%s: %d parts, not %d", name, got, parts)
			}
			wantUp(t, list)
			up, code := impl.BackUp(list)
			if code == 0 && impl.TreeSize(up) != parts || (code == 0) != (parts <= 400) || code != 0 && code != impl.BackMany {
				t.Errorf("%s, of %d parts: code %d, %d parts", name, parts, code, impl.TreeSize(up))
			}
		}
	}
}

// Lists of 1000 instructions are verified, but all their ladders are too large; one more is too many.
func TestPromise19Many(t *testing.T) {
	m := newMaker(193, 0)
	lists := [][]impl.Inst{filler(1000), short("ld 997*and coil end"), short("ld 997*inv coil end"), slices.Concat(short("ld"), slices.Repeat(short("ld orb"), 498), short("coil coil end")), slices.Concat(slices.Repeat(short("ld coil end"), 332), short("ld 2*coil end")), m.verified(1000)}
	for _, list := range lists {
		if len(list) != 1000 || impl.SureCheck(list) != (impl.SureFault{}) {
			t.Fatalf("%d instructions: %.500s", len(list), impl.ListText(list))
		}
		wantBack(t, list, nil, impl.BackMany)
		wantUp(t, list)
		wantBack(t, slices.Insert(slices.Clone(list), len(list)-1, short("coil")...), nil, impl.BackBad)
		wantUp(t, slices.Insert(slices.Clone(list), 1, short("and")...))
	}
	for _, long := range []int{1001, 1002, 5000, 300000} {
		wantBack(t, slices.Repeat(short("ld"), long), nil, impl.BackBad)
		wantBack(t, make([]impl.Inst, long), nil, impl.BackBad)
		wantBack(t, slices.Concat(slices.Repeat(filler(500), long/500), filler(max(3, long%500))), nil, impl.BackBad)
	}
	// The longest lists of the greatest ladders go up.
	longest := slices.Concat(short("ld"), slices.Repeat(short("ld orb"), 396), short("coil end"))
	wantUp(t, longest)
	if up, code := impl.BackUp(longest); code != 0 || impl.TreeSize(up) != 400 || len(longest) != 795 {
		t.Errorf("%d instructions: code %d, %d parts", len(longest), code, impl.TreeSize(up))
	}
}

// Lists that are not verified, by each code, alone and with rungs at both sides, be these too many or not.
func TestPromise19NotVerified(t *testing.T) {
	refused := func(list []impl.Inst, code int) {
		if got := impl.SureCheck(list).Code; got != code {
			t.Fatalf("code %d, not %d: %.500s", got, code, shownList(list))
		}
		wantBack(t, list, nil, impl.BackBad)
	}
	for code, pieces := range wrongPieces {
		for _, words := range pieces {
			piece := short(words)
			for _, ahead := range [][]impl.Inst{nil, filler(3), slices.Repeat(filler(3), 41), filler(500)} {
				refused(slices.Concat(ahead, piece), code)
				refused(slices.Concat(ahead, piece, filler(3)), code)
				refused(slices.Concat(ahead, piece, filler(300)), code)
			}
		}
	}
	for _, words := range []string{"ld", "ld coil", "ld mps coil", "ld mps coil mpp coil", "2*ld", "ld coil end ld and"} {
		refused(short(words), impl.SureCut)
		refused(slices.Concat(filler(900), short(words)), impl.SureCut)
	}
	refused(filler(1001), impl.SureMany)
	example, _ := impl.WayDown(ladder(example))
	for at := range example {
		wantUp(t, example[:at])
		wantUp(t, example[at:])
		wantUp(t, slices.Delete(slices.Clone(example), at, at+1))
		for _, i := range shortInsts() {
			wantUp(t, slices.Insert(slices.Clone(example), at, i))
			other := slices.Clone(example)
			other[at] = i
			wantUp(t, other)
		}
	}
}

// BackNet of instructions that are not ok, or are none of the six, each at each place of instructions that leave a net.
func TestBackNetWrong(t *testing.T) {
	right := short("ld ld and orb ld inv anb or")
	wantNet(t, right)
	wrong := short("mps mrd mpp coil end what what? ld? and? or? anb? orb? inv? mps? coil? end?")
	for _, code := range notCodes {
		wrong = append(wrong, impl.Inst{Code: code}, impl.Inst{Code: code, One: elem("X0")})
	}
	for _, e := range badElems {
		for code := impl.ListLd; code <= impl.ListInv; code++ {
			if i := (impl.Inst{Code: code, One: e}); !slowOk(i) {
				wrong = append(wrong, i)
			}
		}
	}
	for _, i := range wrong {
		wantNoNet(t, []impl.Inst{i})
		for at := range len(right) + 1 {
			wantNoNet(t, slices.Insert(slices.Clone(right), at, i))
			wantNet(t, slices.Insert(slices.Clone(right), at, i))
		}
		for at := range right {
			other := slices.Clone(right)
			other[at] = i
			wantNoNet(t, other)
		}
	}
	for _, words := range []string{"and", "or", "anb", "orb", "inv", "ld anb", "ld orb", "ld and orb", "2*ld anb anb", "2*ld anb orb ld", "ld ld", "3*ld anb", "17*ld", "ld inv ld", "and ld", "anb ld ld"} {
		wantNoNet(t, short(words))
	}
}

// All lists with one wrong instruction at most, at their end, and all that they lead to: BackNet of them, and BackUp of what makes them verified.
func TestPromise19And20And21Grown(t *testing.T) {
	found := map[string]int{}
	look := func(list []impl.Inst) {
		if wantNet(t, list) {
			found["net"]++
		}
		if len(list) > 0 && len(slowCodes(list, len(list)-1)) > 0 {
			wantBack(t, list, nil, impl.BackBad)
			return
		}
		found["ladder"]++
		wantUp(t, numberedList(slices.Concat(list, closing(list))))
		wantUp(t, list)
	}
	grown(nil, 5, look)
	for _, words := range []string{"15*ld", "16*ld", "ld coil 14*ld", "ld coil end ld", "ld 7*mps", "ld 8*mps", "ld 7*mps coil", "ld coil end ld 8*mps coil mpp", "ld mps coil", "ld mps mps coil mpp coil", "ld coil", "ld coil 2*ld", "ld mps coil mpp coil end"} {
		grown(short(words), 3, look)
	}
	if found["net"] < 250 || found["ladder"] < 3000 {
		t.Errorf("%v", found)
	}
}

// BackNet and BackUp of all lists of a few instructions, right or wrong.
func TestPromise19SmallLists(t *testing.T) {
	for n := range 4 {
		tuples(shortInsts(), n, func(list []impl.Inst) {
			wantNet(t, list)
			up, code := slowUp(list)
			wantBack(t, list, up, code)
		})
	}
}

// Promises 19 and 20, of lists made by dice: verified ones, such with one thing changed, and others.
func TestPromise19And20Made(t *testing.T) {
	m := newMaker(194, 0)
	found := map[int]int{}
	for n := range 250 {
		list := m.verified(3 + n)
		wantUp(t, list)
		_, code := impl.BackUp(list)
		found[code]++
		at := m.below(len(list))
		wantUp(t, slices.Delete(slices.Clone(list), at, at+1))
		wantUp(t, slices.Insert(slices.Clone(list), at, m.inst()))
		wantUp(t, list[at:])
	}
	for _, long := range []int{400, 500, 600, 700, 800, 900} {
		list := m.verified(long)
		wantUp(t, list)
		_, code := impl.BackUp(list)
		found[code]++
	}
	if found[0] < 200 || found[2] < 3 {
		t.Errorf("codes %v", found)
	}
	bad := newMaker(195, 50)
	for long := range 100 {
		wantUp(t, bad.list(long))
	}
}

// BackNet of instructions made by dice, high and low.
func TestBackNetMade(t *testing.T) {
	m := newMaker(211, 0)
	nets, high := 0, 0
	for n := range 300 {
		list := m.netList(1 + n)
		if wantNet(t, list) {
			nets++
		}
		high = max(high, slowPeak(list).Bits)
		at := m.below(len(list))
		wantNet(t, slices.Delete(slices.Clone(list), at, at+1))
		wantNet(t, slices.Insert(slices.Clone(list), at, m.inst()))
		wantNet(t, list[at:])
	}
	if nets < 250 || high < 17 {
		t.Errorf("%d nets, at most %d bits", nets, high)
	}
}

// bothBack is what the two functions answer, in full.
func bothBack(list []impl.Inst) string {
	up, code := impl.BackUp(list)
	n, ok := impl.BackNet(list)
	return fmt.Sprint(up, code, n, ok)
}

// manyLists have a ladder, or a net, or neither.
func manyLists() [][]impl.Inst {
	m := newMaker(196, 0)
	out := [][]impl.Inst{nil, short("ld coil end"), short("ld 3*and 2*ld orb anb or inv"), short("ld and mps coil mrd ld or anb and coil mpp 2*coil and coil end 2*ld anb or inv coil end"), short("20*ld 19*anb"), short("ld 200*and"), short("ld 200*and 3*ld anb orb anb coil end"), slices.Repeat(short("ld coil end"), 40), slices.Repeat(short("ld coil end"), 41), short("ld 997*and coil end"), filler(1001), short("ld coil"), short("what")}
	for _, rungs := range manyLadders() {
		list, _ := impl.WayDown(rungs)
		out = append(out, list)
	}
	for n := range 10 {
		out = append(out, m.verified(20*n+10), m.netList(10*n+1), m.list(5), loosePlain(m.ladder(2), &m.dice))
	}
	return out
}

// The same answer at each of many calls, whatever was asked ahead of them.
func TestBackAgain(t *testing.T) {
	all := manyLists()
	var first []string
	for _, list := range all {
		first = append(first, bothBack(list))
	}
	for round := range 20 {
		for i := range all {
			at := (i*7 + round) % len(all)
			if got := bothBack(all[at]); got != first[at] {
				t.Fatalf("list %d, round %d: %.500s, not %.500s", at, round, got, first[at])
			}
		}
	}
}

// The same answer at many calls at once, of one list and of several.
func TestBackAtOnce(t *testing.T) {
	all := manyLists()
	var first []string
	for _, list := range all {
		first = append(first, bothBack(list))
	}
	var calls sync.WaitGroup
	for call := range 16 {
		calls.Go(func() {
			for round := range 2 * len(all) {
				at := (call + round) % len(all)
				if call%2 == 0 {
					at = round / 2
				}
				if got := bothBack(all[at]); got != first[at] {
					t.Errorf("list %d, call %d: %.500s, not %.500s", at, call, got, first[at])
					return
				}
			}
		})
	}
	calls.Wait()
}

// wantOwnBack calls both functions with a list: each answer is in memory of its own, and spoiling it changes no other.
func wantOwnBack(t *testing.T, list []impl.Inst, want string) {
	t.Helper()
	before := whole(list)
	up, _ := impl.BackUp(list)
	n, _ := impl.BackNet(list)
	wantApart(t, list, up)
	wantApart(t, list, n)
	again, _ := impl.BackUp(list)
	nAgain, _ := impl.BackNet(list)
	wantApart(t, up, again)
	wantApart(t, n, nAgain)
	wantApart(t, up, nAgain)
	spoil(reflect.ValueOf(up))
	spoil(reflect.ValueOf(&n).Elem())
	if got := bothBack(list); got != want || whole(list) != before {
		t.Errorf("%.500s, not %.500s, or a list was written into", got, want)
	}
}

// The lists that are handed in stay as they were, what stands behind their ends too; each answer is new memory, and no two lists of operands, coils, nets or arms share any.
func TestBackMemory(t *testing.T) {
	look := func(list []impl.Inst) {
		want := bothBack(list)
		wantOwnBack(t, list, want)
		wantOwnBack(t, copiedList(list), want)
		if len(list) < 60 {
			wantOwnBack(t, crowdedList(list), want)
		}
		wantOwnBack(t, copiedList(append(slices.Clone(list), short("ld and coil end")...))[:len(list)], want)
	}
	for _, list := range manyLists() {
		look(list)
	}
	d := &dice{197}
	i := 0
	someLadders(t, func(rungs []impl.Arm) {
		if i++; i%20 == 0 {
			look(loosePlain(rungs, d))
			look(looseBegin(append(rungs, ladder(example)...)[0].Net, d))
		}
	})
}

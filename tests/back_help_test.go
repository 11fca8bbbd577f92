package tests

import (
	"slices"

	"loop.example/stilway/impl"
)

// The tests' own telling of the way up reads nets from their last instruction to the first, and cuts arms where their forks part them. What is put together is a block of two, always; the steps to the normal form open it.

var netWords = []string{"ld", "and", "or", "anb", "orb", "inv"}

// slowLeft is the net that instructions leave, in blocks of two.
func slowLeft(list []impl.Inst) impl.Net {
	last := len(list) - 1
	ahead, i := list[:last], list[last]
	kind := impl.NetAnd
	if isCode(i, "or", "orb") {
		kind = impl.NetOr
	}
	switch {
	case isCode(i, "ld"):
		return contact(i.One)
	case isCode(i, "inv"):
		return net(impl.NetNot, slowLeft(ahead))
	case isCode(i, "and", "or"):
		return net(kind, slowLeft(ahead), contact(i.One))
	}
	at := slowMeet(ahead)
	return net(kind, slowLeft(ahead[:at]), slowLeft(ahead[at:]))
}

// slowMeet is where the instructions of the net on top begin.
func slowMeet(list []impl.Inst) int {
	at := len(list)
	for bits := 0; bits < 1; {
		at--
		bits += heights(list[at : at+1]).Bits
	}
	return at
}

// slowLeftNet is the net that instructions leave.
func slowLeftNet(list []impl.Inst) impl.Net {
	n := slowLeft(list)
	takeAll(&dice{uint64(len(list))}, func(left *int) bool { return stepNet(&n, left) })
	return n
}

// slowKidNet is the net that instructions leave of a kid: as if a contact came, which is taken away again.
func slowKidNet(list []impl.Inst) impl.Net {
	n := slowLeftNet(slices.Concat(short("ld"), list))
	switch len(n.Kids) {
	case 0:
		return impl.Net{}
	case 2:
		return n.Kids[1]
	}
	return net(impl.NetAnd, n.Kids[1:]...)
}

// slowArm is the arm of its instructions, no more and no less, which is a rung or a kid.
func slowArm(list []impl.Inst, netOf func(list []impl.Inst) impl.Net) impl.Arm {
	at := slices.IndexFunc(list, func(i impl.Inst) bool { return !isCode(i, netWords...) })
	arm := impl.Arm{Net: netOf(list[:at])}
	for ; at < len(list) && isCode(list[at], "coil"); at++ {
		arm.Coils = append(arm.Coils, list[at].One)
	}
	for _, kid := range slowPieces(list[at:]) {
		arm.Kids = append(arm.Kids, slowArm(kid, slowKidNet))
	}
	return arm
}

// slowPieces cuts what stands behind the coils of an arm into its kids. Those of a fork are parted where there is no other fork within it.
func slowPieces(list []impl.Inst) [][]impl.Inst {
	if len(list) == 0 {
		return nil
	}
	if !isCode(list[0], "mps") {
		return [][]impl.Inst{list}
	}
	var out [][]impl.Inst
	from := 1
	for at := 1; ; at++ {
		if heights(list[:at]).Forks > 1 || !isCode(list[at], "mrd", "mpp") {
			continue
		}
		out = append(out, list[from:at])
		from = at + 1
		if isCode(list[at], "mpp") {
			return append(out, list[from:])
		}
	}
}

// slowLadder is the ladder of a verified list, however large.
func slowLadder(list []impl.Inst) []impl.Arm {
	var out []impl.Arm
	for _, rung := range slowRungs(list) {
		out = append(out, slowArm(rung[:len(rung)-1], slowLeftNet))
	}
	return out
}

// slowUp is BackUp, told once more.
func slowUp(list []impl.Inst) ([]impl.Arm, int) {
	if slowSure(list) != (impl.SureFault{}) {
		return nil, 1
	}
	rungs := slowLadder(list)
	if slowCheck(rungs).Code != 0 {
		return nil, 2
	}
	return rungs, 0
}

// slowBackNet is BackNet, told once more.
func slowBackNet(list []impl.Inst) (impl.Net, bool) {
	if len(list) > 1000 {
		return impl.Net{}, false
	}
	for at, i := range list {
		codes := slowCodes(list, at)
		if !isCode(i, netWords...) || slices.Contains(codes, 2) || slices.Contains(codes, 3) {
			return impl.Net{}, false
		}
	}
	if heights(list).Bits != 1 {
		return impl.Net{}, false
	}
	n := slowLeftNet(list)
	if len(netsOf(n)) > 400 {
		return impl.Net{}, false
	}
	return n, true
}

// numberedList gives each contact and each coil a device of its own, by its place.
func numberedList(list []impl.Inst) []impl.Inst {
	out := copiedList(list)
	number := 0
	for _, i := range out {
		if slowOk(i) && len(i.One.Args) > 0 {
			i.One.Args[0].N = number % impl.DevSize(i.One.Args[0].Kind)
			number++
		}
	}
	return out
}

// crowdedList is a list whose operands lie one behind the other, so that what is put behind the end of some is put into others.
func crowdedList(list []impl.Inst) []impl.Inst {
	c := &crowd{args: make([]impl.DevArg, 0, 4*len(list)+8)}
	return append(make([]impl.Inst, 0, len(list)+2), each(list, func(i impl.Inst) impl.Inst {
		return impl.Inst{Code: i.Code, One: c.elem(i.One)}
	})...)
}

// upShapes are verified lists of one rung, or of as many as may be, whose ladder has so many parts, 350 at least.
var upShapes = map[string]func(parts int) []impl.Inst{
	"coils": func(parts int) []impl.Inst {
		return slices.Concat(short("ld"), slices.Repeat(short("coil"), parts-2), short("end"))
	},
	"ands": func(parts int) []impl.Inst {
		return slices.Concat(short("ld"), slices.Repeat(short("and"), parts-4), short("coil end"))
	},
	"ors": func(parts int) []impl.Inst {
		return slices.Concat(short("ld"), slices.Repeat(short("or"), parts-4), short("coil end"))
	},
	"blocks that are opened": func(parts int) []impl.Inst {
		return slices.Concat(short("ld"), slices.Repeat(short("ld anb"), parts-4), short("coil end"))
	},
	"blocks of ors that are opened": func(parts int) []impl.Inst {
		return slices.Concat(short("ld"), slices.Repeat(short("ld or orb"), (parts-4)/2), slices.Repeat(short("ld orb"), parts%2), short("coil end"))
	},
	"turned ones": func(parts int) []impl.Inst {
		return slices.Concat(short("ld"), slices.Repeat(short("inv"), parts-3), short("coil end"))
	},
	"blocks within blocks": func(parts int) []impl.Inst {
		return slices.Concat(short("ld"), slices.Repeat(short("or and"), 60), slices.Repeat(short("ld inv orb and"), 20), slices.Repeat(short("coil"), parts-342), short("end"))
	},
	"kids that begin right there": func(parts int) []impl.Inst {
		return slices.Concat(short("ld coil"), slices.Repeat(short("and coil"), parts/3-1), slices.Repeat(short("coil"), parts%3), short("end"))
	},
	"kids of one fork": func(parts int) []impl.Inst {
		return slices.Concat(short("ld mps coil"), slices.Repeat(short("mrd coil"), parts/2-3), short("mpp coil"), slices.Repeat(short("coil"), parts%2), short("end"))
	},
	"last kids within last kids": func(parts int) []impl.Inst {
		return slices.Concat(short("ld"), slices.Repeat(short("mps coil mpp"), 60), slices.Repeat(short("coil"), parts-2-3*60), short("end"))
	},
	"rungs": func(parts int) []impl.Inst {
		return slices.Concat(slices.Repeat(short("ld coil end"), 39), short("ld"), slices.Repeat(short("coil"), parts-3*39-2), short("end"))
	},
}

// A ladder that is not brought into normal form goes down too, with dice for what may be said in more ways than one: to lists that come up as its normal form, most of which did not come down from a ladder.

// looseBegin is instructions that leave a net.
func looseBegin(n impl.Net, d *dice) []impl.Inst {
	switch n.Kind {
	case impl.NetContact:
		return []impl.Inst{instOf("ld", n.One)}
	case impl.NetNot:
		return append(looseBegin(n.Kids[0], d), instOf("inv", impl.Elem{}))
	}
	out := looseBegin(n.Kids[0], d)
	if d.below(4) == 0 {
		for _, kid := range n.Kids[1:] {
			out = append(out, looseBegin(kid, d)...)
		}
		return append(out, slices.Repeat(looseJoin(n.Kind), len(n.Kids)-1)...)
	}
	for _, kid := range n.Kids[1:] {
		out = append(out, looseTaken(n.Kind, kid, d)...)
	}
	return out
}

func looseJoin(kind int) []impl.Inst {
	return short(map[int]string{impl.NetAnd: "anb", impl.NetOr: "orb"}[kind])
}

func looseTaken(kind int, n impl.Net, d *dice) []impl.Inst {
	if n.Kind == impl.NetContact && d.below(2) == 0 {
		return []impl.Inst{instOf(map[int]string{impl.NetAnd: "and", impl.NetOr: "or"}[kind], n.One)}
	}
	return append(looseBegin(n, d), looseJoin(kind)...)
}

// looseTail is the tail of an arm. One that only goes on to one kid leaves no trace, and neither does the beginning of a kid without a net.
func looseTail(arm impl.Arm, d *dice) []impl.Inst {
	var out []impl.Inst
	for _, coil := range arm.Coils {
		out = append(out, instOf("coil", coil))
	}
	forks := slowForks(len(arm.Kids))
	for i, kid := range arm.Kids {
		out = append(out, forks[i]...)
		switch {
		case kid.Net.Kind == impl.NetAnd && d.below(2) == 0:
			for _, n := range kid.Net.Kids {
				out = append(out, looseTaken(impl.NetAnd, n, d)...)
			}
		case kid.Net.Kind != 0:
			out = append(out, looseTaken(impl.NetAnd, kid.Net, d)...)
		}
		out = append(out, looseTail(kid, d)...)
	}
	return out
}

// loosePlain is a list of a ladder.
func loosePlain(rungs []impl.Arm, d *dice) []impl.Inst {
	var out []impl.Inst
	for _, rung := range rungs {
		out = slices.Concat(out, looseBegin(rung.Net, d), looseTail(rung, d), short("end"))
	}
	return out
}

// netList makes instructions by dice that leave one net, some of them high.
func (m *ladderMaker) netList(long int) []impl.Inst {
	list := short("ld")
	more := m.below(3)
	for len(list) < long {
		next := append(list, m.inst())
		if m.below(8) < more {
			next[len(list)] = instOf("ld", pick(&m.dice, m.contacts))
		}
		if isCode(next[len(list)], netWords...) && !slices.Contains(slowCodes(next, len(list)), 3) {
			list = next
		}
	}
	for heights(list).Bits > 1 {
		list = append(list, short(pick(&m.dice, []string{"anb", "orb", "inv anb", "inv orb"}))...)
	}
	return list
}

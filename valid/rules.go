package valid

import "carrefour/api"

// These refuse in the chapter's order: what stands behind a call here may lean on what that call has let pass.

func checkWhole(n api.Net) {
	refuse(api.ErrLong, len(n.Nodes) > api.MaxNodes || len(n.Stops) > api.MaxNodes)
	refuse(api.ErrRange, n.Min < 1 || n.Max < n.Min || n.Max > api.MaxTime || n.Step < 1)
	refuse(api.ErrRange, !isFactor(n.Peak))
	refuse(api.ErrRange, !between(0, n.WOut, api.MaxVolume) || !between(0, n.WIn, api.MaxVolume))
	refuse(api.ErrEmpty, len(n.Nodes) == 0)
}

// isFactor tells whether a fraction may be a factor of volumes.
func isFactor(f api.Frac) bool {
	return between(1, f.Num, api.MaxVolume) && between(1, f.Den, api.MaxVolume)
}

// checkNodes tells the nodes' numbers.
func checkNodes(l []api.Node) names {
	nodes := names{}
	for i, x := range l {
		nodes.add(x.Pos, x.Name, i)
		checkNode(x)
	}
	return nodes
}

func checkNode(x api.Node) {
	checkCounts(x)
	heads := checkHeads(x.Heads)
	phases, homes := checkPhases(x.Phases, heads)
	for _, h := range x.Heads {
		refuseAt(h.Pos, api.ErrEmpty, !homes.has(h.Name))
	}
	checkWalks(x.Peds, phases)
	placed := checkGroups(x, phases)
	for _, p := range x.Phases {
		refuseAt(p.Pos, api.ErrRing, !placed.has(p.Name))
	}
	checkFoes(x.Foes, homes)
}

func checkCounts(x api.Node) {
	refuseAt(x.Pos, api.ErrLong, len(x.Heads) > api.MaxHeads || len(x.Phases) > api.MaxHeads)
	refuseAt(x.Pos, api.ErrLong, len(x.Peds) > api.MaxPeds || len(x.Groups) > api.MaxGroups || len(x.Foes) > api.MaxFoes)
	refuseAt(x.Pos, api.ErrEmpty, len(x.Heads) == 0 || len(x.Phases) == 0 || len(x.Groups) == 0)
}

// checkHeads tells the heads' numbers.
func checkHeads(l []api.Head) names {
	heads := names{}
	for i, h := range l {
		heads.add(h.Pos, h.Name, i)
		refuseAt(h.Pos, api.ErrRange, !isInRange(h))
	}
	return heads
}

func isInRange(h api.Head) bool {
	return between(0, h.Volume, api.MaxVolume) &&
		between(1, h.Sat, api.MaxVolume) &&
		isFactor(h.Use) &&
		between(1, h.Speed, api.MaxSpeed) &&
		between(-api.MaxGrade, h.Grade, api.MaxGrade) &&
		between(0, h.Width, api.MaxSize) &&
		between(0, h.Length, api.MaxSize) &&
		between(1, h.Green, api.MaxTime)
}

// checkPhases tells the phases' numbers, and of each head the number of the phase that has it.
func checkPhases(l []api.Phase, heads names) (phases, homes names) {
	phases, homes = names{}, names{}
	for i, p := range l {
		phases.add(p.Pos, p.Name, i)
		for _, h := range p.Heads {
			heads.want(p.Pos, h)
			homes.add(p.Pos, h, i)
		}
		refuseAt(p.Pos, api.ErrEmpty, len(p.Heads) == 0)
	}
	return phases, homes
}

func checkWalks(l []api.Ped, phases names) {
	walks := names{}
	for i, w := range l {
		walks.add(w.Pos, w.Name, i)
		phases.want(w.Pos, w.Phase)
		refuseAt(w.Pos, api.ErrRange, !between(1, w.Long, api.MaxSize))
		refuseAt(w.Pos, api.ErrRange, !between(1, w.Pace, api.MaxSpeed))
		refuseAt(w.Pos, api.ErrRange, !between(1, w.Walk, api.MaxTime))
	}
}

// checkGroups tells of each phase that is in a ring the number of its group.
func checkGroups(x api.Node, phases names) names {
	placed := names{}
	for i, g := range x.Groups {
		refuseAt(x.Pos, api.ErrRing, len(g.Rings) == 0 || len(g.Rings) > api.MaxRings)
		for _, r := range g.Rings {
			refuseAt(x.Pos, api.ErrRing, len(r.Phases) == 0 || len(r.Phases) > api.MaxRow)
			for _, p := range r.Phases {
				phases.want(x.Pos, p)
				placed.add(x.Pos, p, i)
			}
		}
	}
	return placed
}

// checkFoes leans on each head's having one home: heads that are one have the same.
func checkFoes(l []api.Foe, homes names) {
	for _, f := range l {
		homes.want(f.Pos, f.A)
		homes.want(f.Pos, f.B)
		refuseAt(f.Pos, api.ErrFoe, homes[f.A] == homes[f.B])
	}
}

func checkStops(n api.Net, nodes names) {
	stops := names{}
	for i, s := range n.Stops {
		nodes.want(s.Pos, s.Node)
		stops.add(s.Pos, s.Node, i)
		x := n.Nodes[nodes[s.Node]]
		refuseAt(s.Pos, api.ErrName, Head(x, s.Out) < 0 || Head(x, s.In) < 0)
		refuseAt(s.Pos, api.ErrRange, !between(0, s.Ahead, api.MaxTime) || !between(0, s.Back, api.MaxTime))
		refuseAt(s.Pos, api.ErrArtery, i == 0 && (s.Ahead != 0 || s.Back != 0))
	}
}

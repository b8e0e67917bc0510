package net

import "carrefour/api"

// These read as the chapter's grammar does. A row has read the word that begins a thing ahead of the thing's own steps.

func (r *reader) net(n *api.Net) error {
	return inOrder(
		r.the("cycle"), r.number(&n.Min), r.the("to"), r.number(&n.Max), r.the("by"), r.number(&n.Step), r.the(";"),
		r.the("peak"), r.frac(&n.Peak), r.the(";"),
		row(r, "node", api.MaxNodes, r.node, &n.Nodes),
		r.artery(n),
		r.end,
	)
}

func (r *reader) node(n *api.Node) error {
	return inOrder(
		r.pos(&n.Pos), r.name(&n.Name), r.the("{"),
		row(r, "head", api.MaxHeads, r.head, &n.Heads),
		row(r, "walk", api.MaxPeds, r.walk, &n.Peds),
		row(r, "phase", api.MaxHeads, r.phase, &n.Phases),
		row(r, "group", api.MaxGroups, r.group, &n.Groups),
		row(r, "foe", api.MaxFoes, r.foe, &n.Foes),
		r.the("}"),
	)
}

func (r *reader) head(h *api.Head) error {
	return inOrder(
		r.pos(&h.Pos), r.name(&h.Name),
		r.the("volume"), r.number(&h.Volume),
		r.the("flow"), r.number(&h.Sat),
		r.the("use"), r.frac(&h.Use),
		r.the("speed"), r.number(&h.Speed),
		r.the("grade"), r.grade(&h.Grade),
		r.the("width"), r.number(&h.Width),
		r.the("length"), r.number(&h.Length),
		r.the("green"), r.number(&h.Green),
		r.the(";"),
	)
}

func (r *reader) walk(p *api.Ped) error {
	return inOrder(
		r.pos(&p.Pos), r.name(&p.Name),
		r.the("with"), r.name(&p.Phase),
		r.the("long"), r.number(&p.Long),
		r.the("pace"), r.number(&p.Pace),
		r.the("least"), r.number(&p.Walk),
		r.the(";"),
	)
}

func (r *reader) phase(p *api.Phase) error {
	return inOrder(
		r.pos(&p.Pos), r.name(&p.Name),
		r.the(":"), r.names(api.MaxHeads, &p.Heads),
		r.the(";"),
	)
}

func (r *reader) group(g *api.Group) error {
	return inOrder(
		r.the("{"),
		row(r, "ring", api.MaxRings, r.ring, &g.Rings),
		func() error {
			// Of all rows this one alone may not be empty: where it is, a ring was wanted.
			if len(g.Rings) == 0 {
				return r.wrong(api.ErrWant)
			}
			return nil
		},
		r.the("}"),
	)
}

func (r *reader) ring(w *api.Row) error {
	return inOrder(
		r.may("free", &w.Free),
		r.names(api.MaxRow, &w.Phases),
		r.the(";"),
	)
}

func (r *reader) foe(f *api.Foe) error {
	return inOrder(
		r.pos(&f.Pos), r.name(&f.A), r.name(&f.B),
		r.the(";"),
	)
}

func (r *reader) artery(n *api.Net) step {
	return func() error {
		var there bool
		if err := r.may("artery", &there)(); err != nil || !there {
			return err
		}
		return inOrder(
			r.the("{"),
			row(r, "stop", api.MaxNodes, r.stop, &n.Stops),
			r.the("weights"), r.number(&n.WOut), r.number(&n.WIn), r.the(";"),
			r.the("}"),
		)
	}
}

func (r *reader) stop(s *api.Stop) error {
	return inOrder(
		r.pos(&s.Pos), r.name(&s.Node),
		r.the("out"), r.name(&s.Out),
		r.the("in"), r.name(&s.In),
		r.the("ahead"), r.number(&s.Ahead),
		r.the("back"), r.number(&s.Back),
		r.the(";"),
	)
}

package show

import (
	"carrefour/api"
	"carrefour/lex"
)

// greatest is the greatest number of MaxDigits digits.
const greatest = 1_000_000_000_000_000_000 - 1

// Right tells whether a network has a text.
func Right(n api.Net) bool {
	return areNumbers(n.Min, n.Max, n.Step, n.Peak.Num, n.Peak.Den, n.WOut, n.WIn) &&
		areRight(n.Nodes, 0, api.MaxNodes, isNode) &&
		areRight(n.Stops, 0, api.MaxNodes, isStop)
}

func isNode(n api.Node) bool {
	return isName(n.Name) &&
		areRight(n.Heads, 0, api.MaxHeads, isHead) &&
		areRight(n.Peds, 0, api.MaxPeds, isWalk) &&
		areRight(n.Phases, 0, api.MaxHeads, isPhase) &&
		areRight(n.Groups, 0, api.MaxGroups, isGroup) &&
		areRight(n.Foes, 0, api.MaxFoes, isFoe)
}

func isHead(h api.Head) bool {
	return isName(h.Name) && isGrade(h.Grade) &&
		areNumbers(h.Volume, h.Sat, h.Use.Num, h.Use.Den, h.Speed, h.Width, h.Length, h.Green)
}

func isWalk(w api.Ped) bool {
	return isName(w.Name) && isName(w.Phase) && areNumbers(w.Long, w.Pace, w.Walk)
}

func isPhase(p api.Phase) bool {
	return isName(p.Name) && areRight(p.Heads, 1, api.MaxHeads, isName)
}

func isGroup(g api.Group) bool { return areRight(g.Rings, 1, api.MaxRings, isRing) }

func isRing(r api.Row) bool { return areRight(r.Phases, 1, api.MaxRow, isName) }

func isFoe(f api.Foe) bool { return isName(f.A) && isName(f.B) }

func isStop(s api.Stop) bool {
	return isName(s.Node) && isName(s.Out) && isName(s.In) && areNumbers(s.Ahead, s.Back)
}

func isName(s string) bool {
	return lex.Right(api.Token{Kind: api.TWord, Text: s}) && !lex.Reserved(s)
}

func isGrade(n int64) bool { return n >= -greatest && n <= greatest }

func areNumbers(l ...int64) bool {
	for _, n := range l {
		if n < 0 || n > greatest {
			return false
		}
	}
	return true
}

// areRight tells whether there are as many of something as there may be, and each of it is right.
func areRight[T any](l []T, least, most int, right func(T) bool) bool {
	if len(l) < least || len(l) > most {
		return false
	}
	for _, x := range l {
		if !right(x) {
			return false
		}
	}
	return true
}

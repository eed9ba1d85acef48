package tests

import (
	"strings"

	"loop.example/wharffleet/impl"
)

// A second reading of chapter 1, made another way than the program: texts are split at their last sign, lists are walked from their end.

type nodes = []impl.PilotNode

func name(n string) nodes { return nodes{{Kind: impl.PilotName, Name: n}} }

func value(n, v string) nodes { return nodes{{Kind: impl.PilotValue, Name: n, Value: v}} }

func not(kid nodes) nodes { return join(impl.PilotNot, kid) }

func and(left, right nodes) nodes { return join(impl.PilotAnd, left, right) }

func or(left, right nodes) nodes { return join(impl.PilotOr, left, right) }

func join(kind int, kids ...nodes) nodes {
	var all nodes
	for _, k := range kids {
		all = append(all, k...)
	}
	return append(all, impl.PilotNode{Kind: kind, Kids: len(kids)})
}

func none() nodes { return nodes{{Kind: impl.PilotNone}} }

func selectOf(n nodes) impl.PilotSelect { return impl.PilotSelect{Nodes: n} }

const nameBytes = "abcdefghijklmnopqrstuvwxyz0123456789-_"

func modelIsName(s string) bool {
	return len(s) >= 1 && len(s) <= 20 && strings.Trim(s, nameBytes) == ""
}

// modelParse is what PilotParse is to answer.
func modelParse(s string) (nodes, int) {
	if len(s) > 200 {
		return nil, 1
	}
	if strings.Trim(s, " ") == "" {
		return none(), 0
	}
	got := modelRead(modelWords(s))
	switch {
	case got == nil:
		return nil, 2
	case modelHeight(got) > 20:
		return nil, 3
	}
	return got, 0
}

// modelWords are the names and the single other bytes of a text, without the spaces.
func modelWords(s string) []string {
	var words []string
	for i := 0; i < len(s); {
		n := len(s[i:]) - len(strings.TrimLeft(s[i:], nameBytes))
		if n == 0 {
			n = 1
		}
		if s[i] != ' ' {
			words = append(words, s[i:i+n])
		}
		i += n
	}
	return words
}

func modelRead(words []string) nodes {
	for _, sign := range []struct {
		word string
		kind int
	}{{"|", impl.PilotOr}, {"&", impl.PilotAnd}} {
		if at := modelLastOutside(words, sign.word); at >= 0 {
			left, right := modelRead(words[:at]), modelRead(words[at+1:])
			if left == nil || right == nil {
				return nil
			}
			return join(sign.kind, left, right)
		}
	}
	n := len(words)
	switch {
	case n > 1 && words[0] == "!":
		if kid := modelRead(words[1:]); kid != nil {
			return not(kid)
		}
	case n > 2 && words[0] == "(" && words[n-1] == ")":
		return modelRead(words[1 : n-1])
	case n == 1 && modelIsName(words[0]):
		return name(words[0])
	case n == 3 && words[1] == "=" && modelIsName(words[0]) && modelIsName(words[2]):
		return value(words[0], words[2])
	}
	return nil
}

// modelLastOutside is the last place of a word that stands in no brackets, or -1.
func modelLastOutside(words []string, word string) int {
	depth, last := 0, -1
	for i, w := range words {
		switch {
		case w == "(":
			depth++
		case w == ")":
			depth--
		case w == word && depth == 0:
			last = i
		}
	}
	return last
}

// modelKids are the parts of the kids of the whole; false if the list has no such.
func modelKids(list nodes) ([]nodes, bool) {
	if len(list) == 0 {
		return nil, false
	}
	whole, rest := list[len(list)-1], list[:len(list)-1]
	var kids []nodes
	for range whole.Kids {
		// Walked back, a part ends where as many nodes were met as its nodes asked for.
		need, at := 1, len(rest)
		for need > 0 && at > 0 {
			at--
			need += rest[at].Kids - 1
		}
		if need > 0 {
			return nil, false
		}
		kids = append([]nodes{rest[at:]}, kids...)
		rest = rest[:at]
	}
	return kids, len(rest) == 0
}

func modelHeight(list nodes) int {
	kids, _ := modelKids(list)
	most := -1
	for _, k := range kids {
		most = max(most, modelHeight(k))
	}
	return most + 1
}

// modelValid says whether a list of nodes is valid.
func modelValid(list nodes) bool {
	for _, n := range list {
		if n.Kids < 0 || n.Kids > 2 {
			return false
		}
	}
	if len(list) == 1 && list[0] == (impl.PilotNode{Kind: impl.PilotNone}) {
		return true
	}
	return modelPart(list) && modelHeight(list) <= 20
}

func modelPart(list nodes) bool {
	kids, ok := modelKids(list)
	if !ok {
		return false
	}
	for _, k := range kids {
		if !modelPart(k) {
			return false
		}
	}
	n := list[len(list)-1]
	bare := n.Name == "" && n.Value == ""
	switch n.Kind {
	case impl.PilotName:
		return len(kids) == 0 && modelIsName(n.Name) && n.Value == ""
	case impl.PilotValue:
		return len(kids) == 0 && modelIsName(n.Name) && modelIsName(n.Value)
	case impl.PilotNot:
		return len(kids) == 1 && bare
	case impl.PilotAnd, impl.PilotOr:
		return len(kids) == 2 && bare
	}
	return false
}

// modelMeets is what PilotMeets is to answer of a valid list.
func modelMeets(list nodes, marks []string) bool {
	kids, _ := modelKids(list)
	n := list[len(list)-1]
	switch n.Kind {
	case impl.PilotName:
		return modelHas(marks, func(name, value string, valued bool) bool { return name == n.Name })
	case impl.PilotValue:
		return modelHas(marks, func(name, value string, valued bool) bool { return valued && name == n.Name && value == n.Value })
	case impl.PilotNot:
		return !modelMeets(kids[0], marks)
	case impl.PilotAnd:
		return modelMeets(kids[0], marks) && modelMeets(kids[1], marks)
	case impl.PilotOr:
		return modelMeets(kids[0], marks) || modelMeets(kids[1], marks)
	}
	return true
}

func modelHas(marks []string, wanted func(name, value string, valued bool) bool) bool {
	for _, m := range marks {
		parts := strings.Split(m, "=")
		switch {
		case len(parts) == 1 && modelIsName(parts[0]):
			if wanted(parts[0], "", false) {
				return true
			}
		case len(parts) == 2 && modelIsName(parts[0]) && modelIsName(parts[1]):
			if wanted(parts[0], parts[1], true) {
				return true
			}
		}
	}
	return false
}

// modelFlat is the print of a list without any brackets.
func modelFlat(list nodes) string {
	kids, _ := modelKids(list)
	n := list[len(list)-1]
	switch n.Kind {
	case impl.PilotName:
		return n.Name
	case impl.PilotValue:
		return n.Name + "=" + n.Value
	case impl.PilotNot:
		return "!" + modelFlat(kids[0])
	case impl.PilotAnd:
		return modelFlat(kids[0]) + " & " + modelFlat(kids[1])
	case impl.PilotOr:
		return modelFlat(kids[0]) + " | " + modelFlat(kids[1])
	}
	return ""
}

// modelBracketed is a text of a list with brackets round every node, and more spaces than are needed.
func modelBracketed(list nodes) string {
	kids, _ := modelKids(list)
	n := list[len(list)-1]
	switch n.Kind {
	case impl.PilotName:
		return "( " + n.Name + " )"
	case impl.PilotValue:
		return "( " + n.Name + " = " + n.Value + " )"
	case impl.PilotNot:
		return "( ! " + modelBracketed(kids[0]) + " )"
	case impl.PilotAnd:
		return "(" + modelBracketed(kids[0]) + "&" + modelBracketed(kids[1]) + ")"
	case impl.PilotOr:
		return "(" + modelBracketed(kids[0]) + "|" + modelBracketed(kids[1]) + ")"
	}
	return ""
}

// modelTrees are all valid lists of a number of nodes, with these leaves.
func modelTrees(size int, leaves []nodes) []nodes {
	bySize := [][]nodes{nil, leaves}
	for n := 2; n <= size; n++ {
		var all []nodes
		for _, kid := range bySize[n-1] {
			all = append(all, not(kid))
		}
		for i := 1; i < n-1; i++ {
			for _, left := range bySize[i] {
				for _, right := range bySize[n-1-i] {
					all = append(all, and(left, right), or(left, right))
				}
			}
		}
		bySize = append(bySize, all)
	}
	return bySize[size]
}

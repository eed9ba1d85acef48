package impl

import (
	"errors"
	"strconv"
	"strings"
)

// Limits of selects.
const (
	PilotMaxName   = 20
	PilotMaxSelect = 200
	PilotMaxNest   = 20
)

// Kinds of nodes.
const (
	PilotNone  = 0
	PilotName  = 1
	PilotValue = 2
	PilotNot   = 3
	PilotAnd   = 4
	PilotOr    = 5
)

// PilotNode is a node of a select.
type PilotNode struct {
	Kind  int
	Name  string
	Value string
	Kids  int
}

// PilotSelect asks for marks.
type PilotSelect struct {
	Nodes []PilotNode
}

// PilotParse reads a select.
func PilotParse(s string) (PilotSelect, int) {
	whole, err := pilotRead(s)
	var fault pilotFault
	if errors.As(err, &fault) {
		return PilotSelect{}, fault.code
	}
	return PilotSelect{Nodes: whole.list(nil)}, 0
}

// PilotPrint writes a select.
func PilotPrint(x PilotSelect) string {
	whole, ok := pilotTree(x.Nodes)
	if !ok {
		return ""
	}
	var text pilotText
	whole.print(&text)
	if text.over {
		return ""
	}
	return text.String()
}

// PilotMeets says whether marks are as a select asks.
func PilotMeets(x PilotSelect, marks []string) bool {
	whole, ok := pilotTree(x.Nodes)
	return ok && whole.meets(pilotMarksOf(marks))
}

// How tightly parts bind; one that binds less than its place asks for stands in brackets.
const (
	pilotBindsOr = iota
	pilotBindsAnd
	pilotBindsNot
	pilotBindsMark
)

// pilotPart is a node of a select with all that stands in it.
type pilotPart interface {
	// tall is how many nodes stand above the lowest one in it.
	tall() int
	list(into []PilotNode) []PilotNode
	binds() int
	print(text *pilotText)
	meets(marks pilotMarks) bool
}

// pilotLeaf is what all parts without kids have in common.
type pilotLeaf struct{}

func (pilotLeaf) tall() int  { return 0 }
func (pilotLeaf) binds() int { return pilotBindsMark }

// pilotNothing asks for nothing.
type pilotNothing struct{ pilotLeaf }

func (pilotNothing) list(into []PilotNode) []PilotNode {
	return append(into, PilotNode{Kind: PilotNone})
}

func (pilotNothing) print(*pilotText) {}

func (pilotNothing) meets(pilotMarks) bool { return true }

// pilotNamed asks for a mark with a name.
type pilotNamed struct {
	pilotLeaf
	name string
}

func (p pilotNamed) list(into []PilotNode) []PilotNode {
	return append(into, PilotNode{Kind: PilotName, Name: p.name})
}

func (p pilotNamed) print(text *pilotText) { text.add(p.name) }

func (p pilotNamed) meets(marks pilotMarks) bool { return marks[p.name] > 0 }

// pilotValued asks for a mark with a name and a value.
type pilotValued struct {
	pilotLeaf
	name  string
	value string
}

func (p pilotValued) list(into []PilotNode) []PilotNode {
	return append(into, PilotNode{Kind: PilotValue, Name: p.name, Value: p.value})
}

func (p pilotValued) print(text *pilotText) { text.add(p.name + "=" + p.value) }

func (p pilotValued) meets(marks pilotMarks) bool { return marks[p.name+"="+p.value] > 0 }

// pilotOpposite asks for what its kid does not.
type pilotOpposite struct {
	kid    pilotPart
	height int
}

func pilotNegate(kid pilotPart) pilotPart {
	return pilotOpposite{kid: kid, height: kid.tall() + 1}
}

func (p pilotOpposite) tall() int  { return p.height }
func (p pilotOpposite) binds() int { return pilotBindsNot }

func (p pilotOpposite) list(into []PilotNode) []PilotNode {
	return append(p.kid.list(into), PilotNode{Kind: PilotNot, Kids: 1})
}

func (p pilotOpposite) print(text *pilotText) {
	text.add("!")
	text.addKid(p.kid, pilotBindsNot)
}

func (p pilotOpposite) meets(marks pilotMarks) bool { return !p.kid.meets(marks) }

// pilotPair is what the parts with two kids have in common.
type pilotPair struct {
	left   pilotPart
	right  pilotPart
	height int
}

func pilotPairOf(left, right pilotPart) pilotPair {
	return pilotPair{left: left, right: right, height: max(left.tall(), right.tall()) + 1}
}

func (p pilotPair) tall() int { return p.height }

func (p pilotPair) listAs(kind int, into []PilotNode) []PilotNode {
	return append(p.right.list(p.left.list(into)), PilotNode{Kind: kind, Kids: 2})
}

// printAs asks more of the right kid: signs of one kind take in what stands in front of them first.
func (p pilotPair) printAs(sign string, binds int, text *pilotText) {
	text.addKid(p.left, binds)
	text.add(sign)
	text.addKid(p.right, binds+1)
}

// pilotBoth asks for what both of its kids ask for.
type pilotBoth struct{ pilotPair }

func pilotJoinBoth(left, right pilotPart) pilotPart {
	return pilotBoth{pilotPairOf(left, right)}
}

func (pilotBoth) binds() int { return pilotBindsAnd }

func (p pilotBoth) list(into []PilotNode) []PilotNode { return p.listAs(PilotAnd, into) }

func (p pilotBoth) print(text *pilotText) { p.printAs(" & ", pilotBindsAnd, text) }

func (p pilotBoth) meets(marks pilotMarks) bool {
	return p.left.meets(marks) && p.right.meets(marks)
}

// pilotEither asks for what one of its kids asks for.
type pilotEither struct{ pilotPair }

func pilotJoinEither(left, right pilotPart) pilotPart {
	return pilotEither{pilotPairOf(left, right)}
}

func (pilotEither) binds() int { return pilotBindsOr }

func (p pilotEither) list(into []PilotNode) []PilotNode { return p.listAs(PilotOr, into) }

func (p pilotEither) print(text *pilotText) { p.printAs(" | ", pilotBindsOr, text) }

func (p pilotEither) meets(marks pilotMarks) bool {
	return p.left.meets(marks) || p.right.meets(marks)
}

// pilotText is a printed select that grows, as long as it is not too long for one.
type pilotText struct {
	strings.Builder
	over bool
}

func (t *pilotText) add(s string) {
	t.over = t.over || t.Len()+len(s) > PilotMaxSelect
	if !t.over {
		t.WriteString(s)
	}
}

// addKid leaves a text that is over alone, so that a great tree is not walked for nothing.
func (t *pilotText) addKid(kid pilotPart, least int) {
	if t.over {
		return
	}
	if kid.binds() >= least {
		kid.print(t)
		return
	}
	t.add("(")
	kid.print(t)
	t.add(")")
}

// pilotMarks counts marks by their names, and those with a value by their whole texts too.
type pilotMarks map[string]int

func pilotMarksOf(texts []string) pilotMarks {
	marks := pilotMarks{}
	for _, text := range texts {
		if !pilotIsMark(text) {
			continue
		}
		name, _, valued := strings.Cut(text, "=")
		marks[name]++
		if valued {
			marks[text]++
		}
	}
	return marks
}

func pilotIsMark(s string) bool {
	name, value, valued := strings.Cut(s, "=")
	return pilotIsName(name) && (!valued || pilotIsName(value))
}

func pilotIsName(s string) bool {
	if len(s) < 1 || len(s) > PilotMaxName {
		return false
	}
	for i := range len(s) {
		if !pilotInName(s[i]) {
			return false
		}
	}
	return true
}

func pilotInName(b byte) bool {
	return b >= 'a' && b <= 'z' || b >= '0' && b <= '9' || b == '-' || b == '_'
}

// pilotTree is the part that a list of nodes stands for; false if the list is not valid.
func pilotTree(nodes []PilotNode) (pilotPart, bool) {
	if len(nodes) == 1 && nodes[0] == (PilotNode{Kind: PilotNone}) {
		return pilotNothing{}, true
	}
	var parts []pilotPart
	for _, n := range nodes {
		if n.Kids < 0 || n.Kids > len(parts) {
			return nil, false
		}
		rest := len(parts) - n.Kids
		part, ok := pilotGrow(n, parts[rest:])
		// Looked at here, node by node, so that no walk of a tree ever goes deep.
		if !ok || part.tall() > PilotMaxNest {
			return nil, false
		}
		parts = append(parts[:rest], part)
	}
	if len(parts) != 1 {
		return nil, false
	}
	return parts[0], true
}

// pilotGrow makes a part of a node that is not the whole alone, and of its kids.
func pilotGrow(n PilotNode, kids []pilotPart) (pilotPart, bool) {
	named, valued := n.Name != "", n.Value != ""
	switch {
	case n.Kind == PilotName && n.Kids == 0 && pilotIsName(n.Name) && !valued:
		return pilotNamed{name: n.Name}, true
	case n.Kind == PilotValue && n.Kids == 0 && pilotIsName(n.Name) && pilotIsName(n.Value):
		return pilotValued{name: n.Name, value: n.Value}, true
	case named || valued:
		return nil, false
	case n.Kind == PilotNot && n.Kids == 1:
		return pilotNegate(kids[0]), true
	case n.Kind == PilotAnd && n.Kids == 2:
		return pilotJoinBoth(kids[0], kids[1]), true
	case n.Kind == PilotOr && n.Kids == 2:
		return pilotJoinEither(kids[0], kids[1]), true
	}
	return nil, false
}

// Codes of PilotParse.
const (
	pilotTooLong = 1
	pilotNoRead  = 2
	pilotTooDeep = 3
)

// pilotFault is why a text is not read as a select, and where that was seen.
type pilotFault struct {
	code  int
	place int
}

func (f pilotFault) Error() string {
	return "select: code " + strconv.Itoa(f.code) + " at " + strconv.Itoa(f.place)
}

// pilotRead looks at the height last: a text that is no select is told as that, however deep it goes.
func pilotRead(s string) (pilotPart, error) {
	if len(s) > PilotMaxSelect {
		return nil, pilotFault{code: pilotTooLong, place: PilotMaxSelect}
	}
	r := &pilotReader{text: s}
	if r.ended() {
		return pilotNothing{}, nil
	}
	whole, err := r.either()
	if err != nil {
		return nil, err
	}
	if !r.ended() {
		return nil, r.fault()
	}
	if whole.tall() > PilotMaxNest {
		return nil, pilotFault{code: pilotTooDeep}
	}
	return whole, nil
}

// pilotReader reads the text of a select from its beginning.
type pilotReader struct {
	text string
	at   int
}

func (r *pilotReader) fault() error {
	return pilotFault{code: pilotNoRead, place: r.at}
}

func (r *pilotReader) ended() bool {
	for r.at < len(r.text) && r.text[r.at] == ' ' {
		r.at++
	}
	return r.at == len(r.text)
}

func (r *pilotReader) take(sign byte) bool {
	if r.ended() || r.text[r.at] != sign {
		return false
	}
	r.at++
	return true
}

func (r *pilotReader) either() (pilotPart, error) {
	return r.chain('|', r.both, pilotJoinEither)
}

func (r *pilotReader) both() (pilotPart, error) {
	return r.chain('&', r.single, pilotJoinBoth)
}

func (r *pilotReader) chain(sign byte, next func() (pilotPart, error), join func(left, right pilotPart) pilotPart) (pilotPart, error) {
	whole, err := next()
	if err != nil {
		return nil, err
	}
	for r.take(sign) {
		right, err := next()
		if err != nil {
			return nil, err
		}
		whole = join(whole, right)
	}
	return whole, nil
}

func (r *pilotReader) single() (pilotPart, error) {
	if r.take('!') {
		kid, err := r.single()
		if err != nil {
			return nil, err
		}
		return pilotNegate(kid), nil
	}
	if r.take('(') {
		return r.bracketed()
	}
	return r.mark()
}

func (r *pilotReader) bracketed() (pilotPart, error) {
	whole, err := r.either()
	if err != nil {
		return nil, err
	}
	if !r.take(')') {
		return nil, r.fault()
	}
	return whole, nil
}

func (r *pilotReader) mark() (pilotPart, error) {
	name, err := r.name()
	if err != nil {
		return nil, err
	}
	if !r.take('=') {
		return pilotNamed{name: name}, nil
	}
	value, err := r.name()
	if err != nil {
		return nil, err
	}
	return pilotValued{name: name, value: value}, nil
}

// name gives a text of its own: a piece of the one that is read would share its memory.
func (r *pilotReader) name() (string, error) {
	if r.ended() {
		return "", r.fault()
	}
	first := r.at
	for r.at < len(r.text) && pilotInName(r.text[r.at]) {
		r.at++
	}
	name := r.text[first:r.at]
	if !pilotIsName(name) {
		return "", r.fault()
	}
	return strings.Clone(name), nil
}
